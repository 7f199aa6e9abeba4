import Derived.Test.YtlpdllcedgnaaaaGreatDoorQg
import Derived.RangeFuncNested
import Derived.RangeFuncBound
import Derived.RangeFuncCalls
import Derived.RangeFuncLeaves
import Derived.RangeFuncBox
import Derived.Shelf.Abstract
import Derived.Shelf.RegionOpen
import Derived.OwnWalkIn
import Derived.TacticsInMore
import Derived.LoopNIn
import Derived.LoopIn
import Derived.Maps.AppendAt
import Derived.Laws.BytesArg
import Derived.Laws.IdiomStrings
import Derived.Deep.AppendLies
import Derived.Deep.RegionHeld3
set_option linter.all false
namespace Go.Proofs.YtlpdllcedgnaaaaGreatDoor
set_option maxRecDepth 100000
set_option maxHeartbeats 0
section
open Go.RowKit Go.Shelf
attribute [local go_sem] Oper.semAt_some
abbrev CP:={c:Nat // c<=1114111}
abbrev PT:={x:Nat×Nat // x.2<=1114111}
def wid (c:Nat):Nat:=if 65536<=c then 2 else 1
def pts:Nat->List CP->List PT
 |_, []=> []
 |k,c::r=>⟨(k,c.1),c.2⟩::pts (k+wid c.1) r
def encs (x:PT):Array Value:= #[.int .i64 (x.1.1:Nat), .int .i32 (x.1.2:Nat)]
def bytes (cs:List CP):List Nat:=(cs.map (·.1)).flatMap M.E

theorem Pf {w:World} (h:Lib.Utf8Tabs 0 1 w):2<=w.heap.size:=by
 have:=(h.2 0 (by omega)).1
 rcases Nat.lt_or_ge 1 w.heap.size with h'|h'
 ·omega
 ·simp[World.cell?,Array.getElem?_eq_none h'] at this
theorem Qc {B:Nat} {w w':World} (h:Lib.Utf8Tabs 0 1 w) (hB:2<=B) (hb:Below B w w'):Lib.Utf8Tabs 0 1 w':=
 ⟨fun c hc=>(hb.cell (p:=⟨0,c,none⟩) (by show 0<B;omega)).trans (h.1 c hc),fun i hi=>⟨(hb.cell (p:=⟨1,2 * i,none⟩) (by show 1<B;omega)).trans (h.2 i hi).1,(hb.cell (p:=⟨1,2 * i+1,none⟩) (by show 1<B;omega)).trans (h.2 i hi).2⟩⟩
theorem Dx {w w':World} (h:Below w.heap.size w w'):w.grownBy w' none:=⟨h.os,h.tape,h.output,h.size,fun k hk _=>h.block k hk⟩

theorem Uh {u:ByteArray} (h:Az u= []):u.toList.isEmpty=true:=by
 unfold Az at h
 rw[List.map_eq_nil_iff] at h
 simp[Lib.toList_data,h]
theorem Qn {u:ByteArray} (h:0<u.size):u.toList.isEmpty=false:=by
 cases hE:u.toList.isEmpty with
 |false=>rfl
 |true=>
  have e:u.data.toList= []:=by simpa [Lib.toList_data] using hE
  have:u.size=0:=by rw[ByteArray.size,←Array.length_toList,e];rfl
  omega
theorem wid_le (c:Nat):wid c<=(M.E c).length:=by
 unfold wid M.E;repeat' split
 all_goals (simp;try omega)
def Em (u:Nat):Value:= .int .u16 (u:Nat)
def Nh (cs:List Nat):List Nat:=cs.flatMap M.U
theorem Ed {F:Fence} {n:Nat} {P:Program} (w:World) {ops:Array Oper} {o:Oper} {a:Act} {K:Act->World->Prop} {Q:Exit->Act->World->Prop} {E:Prop}
  (hg:o.guard=none) (s x:Operand) (t:TypeId) (hop:o.op=Op.call {callee:=Callee.builtin Builtin.append,args:= #[s,x],argTypes:= #[t,t]})
  (base:Nat) (e:TypeId) (i:TypeInfo) (z:Value) (size bytes:Nat) (h1:P.underlying t=some (.slice e)) (h2:P.info? e=some i) (h3:i.zero=some z) (h4:i.size=size) (h5:i.bytes=bytes) (h6:z.cells.size=size) (h7:0<size)
  (v:Value) (k:Nat) (xs:List Value) (hs:a.eval s=v) (hown:w.ownsRow base e size v k xs) (ad:Addr) (m c:Nat) (news:List Value) (hx:a.eval x= .slice (some ad) m c) (hn:news.length=m * size)
  (hc: ∀j u,news[j]? =some u->w.cell? (ad.add j)=some u) (h1c: ∀u∈news,u.oneCell'=true) (b1:k+m<=maxLen) (b2:(k+m) * bytes<=140737488355328) (b3:base<=w.heap.size)
  (hK: ∀v' w',w'.ownsRow base e size v' (k+m) (xs++news)->w.grownBy w' v.ownBlock->(v'= .slice none 0 0↔v= .slice none 0 0/\m=0)->K (a.put o.dst v') w'):
  if Region.wanted o (yielded ops a.tmps)=true then Oper.wpIn F n P o a w K Q else E:=by
 have hw:Region.wanted o (yielded ops a.tmps)=true:=by simp[Region.wanted,hg]
 rw[if_pos hw]
 obtain⟨v',w',hrun,r1,r2,r3⟩:=run_append_own (P:=P) w base t o.type e i z size bytes h1 h2 h3 h4 h5 h6 h7 v k xs hown ad m c news hn hc h1c b1 b2 b3
 unfold Oper.wpIn
 refine⟨?_, ?_⟩
 ·simp[Oper.about,hop,resolve,Target.leads,Sem.run_pure]
 ·rw[Oper.semAt_plain F _ _ (by rw[hop];intro c hc';cases hc')]
  simp[execOp,hop,resolve,invoke,builtin,hs,hx,hrun,Result.andThen]
  exact hK v' w' r1 r2 r3

def Mz (c:Nat):Nat:=if 65536<=c then 55296+(c - 65536) / 1024 else c
def Qk (c:Nat):Nat:=56320+(c - 65536) % 1024
theorem U_one {c:Nat} (h: ¬65536<=c):M.U c= [Mz c]:=by simp[M.U,Mz,h,Nat.lt_of_not_le h]
theorem ZcN {c:Nat} (h:65536<=c):M.U c= [Mz c,Qk c]:=by simp[M.U,Mz,Qk,h,Nat.not_lt.2 h]

def uN (l:List PT):List Nat:=l.flatMap fun x=>M.U x.1.2
theorem Ny (l:List PT) (x:PT):uN (l++ [x])=uN l++M.U x.1.2:=by simp[uN]
theorem uN_pts: ∀(k:Nat) (cs:List CP),uN (pts k cs)=Nh (cs.map (·.1))
 |_, []=>rfl
 |k,c::r=>by
  have:=uN_pts (k+wid c.1) r
  simp only[uN,Nh,pts,List.flatMap_cons,List.map_cons] at *
  rw[this]
theorem Zcc: ∀(k:Nat) (cs:List CP),(pts k cs).length=cs.length
 |_, []=>rfl
 |k,c::r=>by simp[pts,Zcc]
theorem U_len (c:Nat):(M.U c).length<=2:=by unfold M.U;split<;>simp
theorem uN_len (l:List PT):(uN l).length<=2 * l.length:=by
 induction l with
 |nil=>simp[uN]
 |cons x r ih=>have:=U_len x.1.2;simp only[uN,List.flatMap_cons,List.length_append,List.length_cons] at *;omega
theorem Yh: ∀(cs:List CP),cs.length<=(bytes cs).length
 | []=>by simp[bytes]
 |c::r=>by
  have:=Yh r;have:=M.E_len c.1
  simp only[bytes,List.map_cons,List.flatMap_cons,List.length_append,List.length_cons] at *;omega

end
section
open Go.RowKit Go.Shelf
def u8v (u:Nat):Value:= .int .u8 (u:Nat)
theorem info5:(Tryz.prog.info? 5).map (fun i=>(i.zero,i.size,i.bytes))=some (some (.int .u8 0),1,1):=by kernel_rfl

theorem Qv (l:List UInt8):Az ⟨l.toArray⟩=l.map UInt8.toNat:=rfl
theorem Zw (l:List Nat) (h: ∀x∈l,x<256):(l.map UInt8.ofNat).map UInt8.toNat=l:=by
 rw[List.map_map]
 conv=>rhs;rw[←List.map_id l]
 apply List.map_congr_left
 intro x hx
 have:=h x hx
 simp[UInt8.toNat_ofNat']
 omega
theorem run_str (w:World) (B n:Nat) (v:Value) (l:List Nat) (hown:w.ownsRow B 5 1 v n (l.map u8v)) (h256: ∀x∈l,x<256):
  ∃s,(convert 102 9 v).run Tryz.prog w= .ok (.string s) w/\Az s=l:=by
 obtain⟨hl,h⟩:=hown
 simp only[List.length_map,Nat.mul_one] at hl
 rcases h with ⟨rfl,rfl⟩|⟨g,cap,cur,rfl,hBg,hgb,hnc,hcm,hcs,htk⟩
 ·refine⟨ByteArray.empty,run_convert_bytes_nil w 102 5 Tryz.underlying102 Tryz.underlying5 0 0 9 Tryz.underlying9, ?_⟩
  rw[List.length_eq_zero_iff.1 hl];rfl
 ·refine⟨⟨(l.map UInt8.ofNat).toArray⟩, ?_, ?_⟩
  ·have hlen:(l.map UInt8.ofNat).length=n:=by simp[hl]
   have:=run_convert_bytes_back (P:=Tryz.prog) w 102 9 5 ⟨g,0,none⟩ cap (l.map UInt8.ofNat) Tryz.underlying102 Tryz.underlying5 Tryz.underlying9 (fun j hj=>by
    have hj':j<l.length:=by simpa using hj
    have hx:l[j]<256:=h256 _ (List.getElem_mem hj')
    have hown':w.ownsRow B 5 1 (.slice (some ⟨g,0,none⟩) n cap) n (l.map u8v):=⟨by simp[hl], .inr ⟨g,cap,cur,rfl,hBg,hgb,hnc,hcm,hcs,htk⟩⟩
    have hc:=hown'.cells (g:=g) rfl j (u8v l[j]) (by simp[hj'])
    rw[hc]
    simp only[u8v,List.getElem_map,UInt8.toNat_ofNat']
    rw[Nat.mod_eq_of_lt hx])
   rw[hlen] at this
   exact this
  ·rw[Qv,Zw l h256]

theorem E_256 (c:Nat) (hc:c<=1114111): ∀x∈M.E c,x<256:=by
 unfold M.E;repeat' split
 all_goals (intro x hx;simp at hx;omega)

theorem Yk {B n:Nat} {w w':World} {v:Value} {e:TypeId} {xs:List Value} {tmp:Obj} (hown:w.ownsRow B e 1 v n xs) (hB:B<=w.heap.size) (hgrow:(w.alloc tmp).grownBy w' v.ownBlock):Below B w w':=by
 refine((Below.refl B w).alloc hB tmp).grown hgrow (by simp;omega) fun j ej=> ?_
 rcases hown.2 with ⟨rfl,_⟩|⟨g,cap,cur,rfl,hb,_,_⟩
 ·simp[Value.ownBlock] at ej
 ·obtain rfl:g=j:=by simpa [Value.ownBlock] using ej
  exact hb

theorem Ua (w:World) (cs:Array Value) (t:TypeId): ∀j u,cs.toList[j]? =some u->(w.alloc (.cells cs t)).cell? ((⟨w.heap.size,0,none⟩:Addr).add j)=some u:=
 World.news_of_block (World.alloc_heap_new w _)
def Reads (w:World) (v:Value) (l:List Nat):Prop:=
 (∃A c,v= .slice A 0 c/\l= [])∨ ∃b off cap,v= .slice (some ⟨b,off,none⟩) l.length cap/\b<w.heap.size/\ ∀i,i<l.length->w.cell? ⟨b,off+i,none⟩=some (.int .u16 (l.getD i 0:Nat))
theorem Reads.same {w w':World} {v:Value} {l:List Nat} (h:Reads w v l) (hb:Below w.heap.size w w'):Reads w' v l:=by
 rcases h with h|⟨b,off,cap,rfl,hlt,hc⟩
 ·exact .inl h
 ·exact .inr ⟨b,off,cap,rfl,Nat.lt_of_lt_of_le hlt hb.size,fun i hi=>(hb.cell (p:=⟨b,off+i,none⟩) hlt).trans (hc i hi)⟩

theorem row_pair (a b:Nat) (r:List Nat) (h:(M.isHi a && M.isLo b)=true):M.row (a::b::r)=(65536+1024 * (a - 55296)+(b - 56320))::M.row r:=by
 simp only[M.row,h,if_true]
theorem Zbu (a:Nat) (t:List Nat) (h: ∀b r,t=b::r->(M.isHi a && M.isLo b)=false):M.row (a::t)=a::M.row t:=M.row_cons_of a t h
theorem Yf (l:List Nat) (k:Nat) (h:k<l.length):l.drop k=l.getD k 0::l.drop (k+1):=by
 rw[List.drop_eq_getElem_cons h,List.getD_eq_getElem?_getD,List.getElem?_eq_getElem h];rfl

theorem Zc3 (l:List Nat) (h16: ∀x∈l,x<65536): ∀c∈M.row l,c<=1114111:=(M.row_props l.length l (Nat.le_refl _) h16).1
theorem Rg: ∀(n:Nat) (l:List Nat) (c d:Nat),M.tailN n l c=some d->d<64^n * (c+1)
 |0,_,c,d,h=>by simp[M.tailN] at h;omega
 |n+1,l,c,d,h=>by
  unfold M.tailN at h
  split at h
  ·simp at h
  ·split at h
   ·simp at h
   ·rename_i b t hb
    have:=Rg n t (64 * c+(b - 128)) d h
    have h2:64^n * (64 * c+(b - 128)+1)<=64^n * (64 * (c+1)):=Nat.mul_le_mul_left _ (by omega)
    rw[Nat.pow_succ]
    have h3:64^n * 64 * (c+1)=64^n * (64 * (c+1)):=by rw[Nat.mul_assoc]
    omega
theorem Zad: ∀(n:Nat) (l:List Nat) (c d:Nat),M.tailN n l c=some d->n<=l.length
 |0,_,_,_,_=>Nat.zero_le _
 |n+1,l,c,d,h=>by
  unfold M.tailN at h
  split at h
  ·simp at h
  ·split at h
   ·simp at h
   ·rename_i b t hb
    have:=Zad n t _ d h
    simp;omega
def rdL (s:ByteArray):List Nat:=(M.rd (Az s)).getD []

theorem ZaA {s t:ByteArray} (h:Az s=Az t):s=t:=by
 have h1:s.data.toList=t.data.toList:=by
  have h2:=congrArg (List.map UInt8.ofNat) h
  unfold Az at h2
  simpa [List.map_map,Function.comp_def] using h2
 cases s;cases t
 simp only[ByteArray.mk.injEq]
 exact Array.toList_inj.1 h1
theorem toList_inj {s t:ByteArray} (h:s.toList=t.toList):s=t:=by
 rw[Lib.toList_data,Lib.toList_data] at h
 cases s;cases t
 simp only[ByteArray.mk.injEq]
 exact Array.toList_inj.1 h
theorem Xl {w:World} {B:Nat} {v:Value} {l:List Nat} (h:w.ownsRow B 103 1 v l.length (l.map Em)):Reads w v l:=by
 rcases h.2 with ⟨rfl,h0⟩|⟨g,cap,cur,rfl,hBg,hgb,hnc,hcm,hcs,htk⟩
 ·exact .inl ⟨none,0,rfl,List.length_eq_zero_iff.1 h0⟩
 ·refine .inr ⟨g,0,cap,rfl,(Array.getElem?_eq_some_iff.1 hgb).1,fun i hi=> ?_⟩
  rw[Nat.zero_add,h.cellAt i (by omega),List.getElem?_map,List.getElem?_eq_getElem hi,List.getD_eq_getElem?_getD,List.getElem?_eq_getElem hi]
  rfl
theorem Xp {w:World} {B B':Nat} {e:TypeId} {size n:Nat} {v:Value} {xs:List Value} (h:w.ownsRow B e size v n xs) (hb:B'<=B):w.ownsRow B' e size v n xs:=by
 obtain⟨h1,h2|⟨g,cap,cur,e1,e2,e3⟩⟩:=h
 ·exact⟨h1, .inl h2⟩
 ·exact⟨h1, .inr ⟨g,cap,cur,e1,Nat.le_trans hb e2,e3⟩⟩
theorem Zc8 (s:ByteArray): ∀x∈rdL s,x<65536:=by
 unfold rdL
 cases h:M.rd (Az s) with
 |none=>simp
 |some u=>simpa using M.rd_small _ _ u (Nat.le_refl _) h
theorem rd1_tail {l:List Nat} {c n:Nat} (h:M.rd1 l=some (c,n)):1+n<=l.length/\(M.U c).length<=1+n:=by
 unfold M.rd1 at h
 split at h
 ·simp at h
 ·split at h
  ·simp at h
  ·rename_i b t n' base hh
   split at h
   ·simp at h
   ·rename_i d htl
    split at h
    ·simp at h
    ·simp only[Option.some.injEq,Prod.mk.injEq] at h
     obtain⟨h1,h2⟩:=h
     have:=Zad _ _ _ _ htl
     have hb:=Rg _ _ _ _ htl
     subst h2
     refine⟨by simp;omega, ?_⟩
     have hUl:=U_len c
     cases n' with
     |zero=>
      have hb0:base<128:=by
       unfold M.head at hh
       repeat' split at hh
       all_goals simp at hh
       omega
      simp at hb h1
      have:c<65536:=by omega
      unfold M.U;rw[if_pos this];simp
     |succ m=>omega
theorem rd_len: ∀(n:Nat) (l u:List Nat),l.length<=n->M.rd l=some u->u.length<=l.length:=by
 intro n
 induction n with
 |zero=>
  intro l u hl h
  have:l= []:=List.eq_nil_of_length_eq_zero (by omega)
  subst this
  rw[M.rd_nil] at h;cases h;simp
 |succ n ih=>
  intro l u hl h
  by_cases hne:l= []
  ·subst hne;rw[M.rd_nil] at h;cases h;simp
  ·rw[M.rd_step l hne] at h
   have hl0:0<l.length:=List.length_pos_iff.2 hne
   cases h1:M.rd1 l with
   |none=>rw[h1] at h;simp at h
   |some p=>
    obtain⟨c,k⟩:=p
    rw[h1] at h
    simp only[Option.map_eq_some_iff] at h
    obtain⟨v,hv,rfl⟩:=h
    have:=ih _ v (by simp;omega) hv
    have:=rd1_tail h1
    simp only[List.length_append,List.length_drop] at *;omega
theorem Zcb (s:ByteArray):(rdL s).length<=s.size:=by
 unfold rdL
 cases h:M.rd (Az s) with
 |none=>simp
 |some u=>have:=rd_len _ _ u (Nat.le_refl _) h;rw[By] at this;simpa using this

def vS (s:ByteArray):Bool:=M.valid false (Az s)
def unS (s:ByteArray):List Nat:=if vS s then rdL s else []
def erS (s:ByteArray):Int:=if vS s then 0 else 10

end
section
open Go Go.Proofs Go.RowKit Go.Sort
theorem rv_go (i j:Nat) (d:Array Nat) (h:i<j):reverseLoop i j d=reverseLoop (i+1) (j - 1) (swp d i j):=by rw[reverseLoop,if_pos h]
theorem rv_stop (i j:Nat) (d:Array Nat) (h: ¬i<j):reverseLoop i j d=d:=by rw[reverseLoop,if_neg h]
theorem Zc5 (blk cap a b:Nat) (d:Array Nat) (w:World) (hL:LiesU w blk d) (hab:a<b) (hb:b<=d.size) (hsz:d.size<=1500000):
  Calls Tryz.prog 201 #[.slice (some ⟨blk,0,none⟩) d.size cap, .int .i64 a, .int .i64 b] w fun e w'=>e= .returned (.tuple #[])/\LiesU w' blk (reverseRange d a b)/\w.grownBy w' (some blk):=by
 have HL:=Ab hL
 clear hL
 have zb:IntKind.i64.wrap ((b:Int) - 1)=((b - 1:Nat):Int):=by rw[IntKind.wrap_i64];omega
 go_enter Tryz.func201,Tryz.ntmps201
 go_wp2_with fail
 go_loopg [6,7] (b+1) (fun g s6 s7 wr=> ∃(i j:Nat) (dk:Array Nat),s6= .int .i64 i/\s7= .int .i64 j/\a<=i/\i<=b/\j<b/\b+1 - i<=g/\Hid (dk.size=d.size)/\Hid (LiesU wr blk dk)/\Hid (w.grownBy wr (some blk))/\Hid (reverseLoop i j dk=reverseRange d a b))
 case atStart=>exact⟨a,b - 1,d,rfl,rfl,Nat.le_refl _,by omega,by omega,by omega,Ab rfl,HL,Ab (Gt _ _),Ab rfl⟩
 case round=>
  obtain⟨i,j,dk,rfl,rfl,hai,hib,hjb,hg,hsk,hLk,hGk,hOk⟩:=hrel
  have hds:=Aa hsk
  by_cases hlt:i<j
  ·have hiz:(i:Int)<j:=by omega
   obtain⟨c1,f1⟩:=(Aa hLk).cell i (by omega)
   obtain⟨c2,f2⟩:=(Aa hLk).cell j (by omega)
   have HGo:=Ab (rv_go i j dk hlt)
   have HSw:=Ab (fun n=>((Aa hLk).drew n).swap i j (by omega) (by omega))
   have z2:(j:Int)<d.size:=by omega
   have z3:(i:Int)<d.size:=by omega
   have z4:IntKind.i64.wrap ((j:Int) - 1)=((j - 1:Nat):Int):=by rw[IntKind.wrap_i64];omega
   have z5:IntKind.i64.wrap ((i:Int)+1)=((i+1:Nat):Int):=by rw[IntKind.wrap_i64];omega
   have n1: ¬i=j:=by omega
   have n2: ¬j=i:=by omega
   clear hds
   generalize dk[i]! =x at *
   generalize dk[j]! =y at *
   go_wp2_with fail
   go_region
   all_goals go_wp2
   go_roundg (b+1 - (i+1))
   case measure=>omega
   case rel=>exact⟨i+1,j - 1,swp dk i j,by go_num,by go_num,by omega,by omega,by omega,Nat.le_refl _,Ab (by rw[De];exact Aa hsk),Ab (Aa HSw _),Ab (Bm (Dc (Aa hGk) _) (Dk _ _ _ _ _ _)),Ab (by rw[←Aa HGo];exact Aa hOk)⟩
  ·have hiz: ¬(i:Int)<j:=by omega
   go_wp2
   go_end0
   refine⟨rfl, ?_,Aa hGk⟩
   rw[←Aa hOk,rv_stop _ _ _ hlt]
   exact Aa hLk
def Pt (w:World) (B:Nat) (n:Nat):Prop:=w.heap[B]? =some (.cells #[.int .i64 (n:Int)] 3 (0,0))
theorem Pt.cell {w:World} {B n:Nat} (h:Pt w B n):w.cell? ⟨B,0,none⟩=some (.int .i64 (n:Int))/\w.frozen? ⟨B,0,none⟩=false/\B<w.heap.size:=by
 unfold Pt at h
 exact⟨by simp[go_sem,World.cell?,h],by simp[go_sem,World.frozen?,h],(Array.getElem?_eq_some_iff.1 h).1⟩
theorem Pt.set {w:World} {B n:Nat} (h:Pt w B n) (m:Nat):Pt (w.setCell ⟨B,0,none⟩ (.int .i64 (m:Int))) B m:=by
 unfold Pt at *
 simp[World.setCell,Array.getElem?_modify,h]
theorem Yy (blk cap a b B s:Nat) (d:Array Nat) (w:World) (hL:LiesU w blk d) (hP:Pt w B s) (hs:s<=100) (ha:a<d.size) (hb:b<d.size) (hsz:d.size<=1500000):
  Calls Tryz.prog 213 #[.slice (some ⟨blk,0,none⟩) d.size cap, .int .i64 a, .int .i64 b, .pointer (some ⟨B,0,none⟩)] w fun e w'=> ∃x y s':Nat,e= .returned (.tuple #[.int .i64 x, .int .i64 y])/\(x=a/\y=b∨x=b/\y=a)/\s'<=s+1/\Pt w' B s'/\w.grownBy w' (some B):=by
 obtain⟨c1,f1⟩:=hL.cell a ha
 obtain⟨c2,f2⟩:=hL.cell b hb
 obtain⟨p1,p2,p3⟩:=hP.cell
 have HP:=Ab hP
 have z1:(a:Int)<d.size:=by omega
 have z2:(b:Int)<d.size:=by omega
 have z3:IntKind.i64.wrap ((s:Int)+1)=((s+1:Nat):Int):=by rw[IntKind.wrap_i64];omega
 clear hL hP
 generalize d[a]! =x at *
 generalize d[b]! =y at *
 have HC:=Ab (Dy y x)
 generalize ltN y x=r at *
 cases r
 ·go_enter Tryz.func213,Tryz.ntmps213
  go_wp2_with fail
  go_quiet ((go_at_call 203;refine Calls.quiet_of_same (Aa HC _)))
  go_wp2
  go_ret2
  exact⟨a,b,s,rfl, .inl ⟨rfl,rfl⟩,by omega,Aa HP,Dc (Gt _ _) _⟩
 ·go_enter Tryz.func213,Tryz.ntmps213
  go_wp2_with fail
  go_quiet ((go_at_call 203;refine Calls.quiet_of_same (Aa HC _)))
  go_wp2
  go_ret2
  exact⟨b,a,s+1,rfl, .inr ⟨rfl,rfl⟩,by omega,Pt.set (w:=w.drewN _) (Aa HP) (s+1),Bm (Dc (Gt _ _) _) (Pq _ _ _ _)⟩
end
section
open Go Go.Proofs Go.RowKit Go.Sort Tryz
theorem LiesU.gb {w w':World} {blk:Nat} {d:Array Nat} {o:Option Nat} (h:LiesU w blk d) (hg:w.grownBy w' o) (hne:some blk≠o):LiesU w' blk d:=h.grown (hg.block blk h.lt hne)
theorem Uc (blk cap a b c B s:Nat) (d:Array Nat) (w:World) (hL:LiesU w blk d) (hP:Pt w B s) (hB:blk≠B) (hs:s<=50) (ha:a<d.size) (hb:b<d.size) (hc:c<d.size) (hsz:d.size<=1500000):
  Calls prog 211 #[.slice (some ⟨blk,0,none⟩) d.size cap, .int .i64 a, .int .i64 b, .int .i64 c, .pointer (some ⟨B,0,none⟩)] w fun e w'=> ∃m s':Nat,e= .returned (.int .i64 m)/\(m=a∨m=b∨m=c)/\s'<=s+3/\Pt w' B s'/\w.grownBy w' (some B):=by
 have HL:=Ab hL
 have HP:=Ab hP
 have hBn:some blk≠some B:=fun e=>hB (Option.some.inj e)
 clear hL hP
 go_enter func211,ntmps211
 go_wp2_with fail
 refine(Yy blk cap a b B s d w (Aa HL) (Aa HP) (by omega) ha hb hsz).mono ?_
 rintro e w1 ⟨x1,y1,s1,rfl,h1,hs1,hP1,hG1⟩
 have HL1:=Ab ((Aa HL).gb hG1 hBn)
 have HP1:=Ab hP1
 have HG1:=Ab hG1
 clear hP1 hG1
 go_wp2_with fail
 refine(Yy blk cap y1 c B s1 d w1 (Aa HL1) (Aa HP1) (by omega) (by omega) hc hsz).mono ?_
 rintro e w2 ⟨x2,y2,s2,rfl,h2,hs2,hP2,hG2⟩
 have HL2:=Ab ((Aa HL1).gb hG2 hBn)
 have HP2:=Ab hP2
 have HG2:=Ab (Bm (Aa HG1) hG2)
 clear hP2 hG2
 go_wp2_with fail
 refine(Yy blk cap x1 x2 B s2 d w2 (Aa HL2) (Aa HP2) (by omega) (by omega) (by omega) hsz).mono ?_
 rintro e w3 ⟨x3,y3,s3,rfl,h3,hs3,hP3,hG3⟩
 have HF:=Ab (And.intro hP3 (Bm (Aa HG2) hG3))
 clear hP3 hG3
 go_wp2
 go_ret
 exact⟨y3,s3,rfl,by omega,by omega,(Aa HF).1,(Aa HF).2⟩
theorem Nv (blk cap a B s:Nat) (d:Array Nat) (w:World) (hL:LiesU w blk d) (hP:Pt w B s) (hB:blk≠B) (hs:s<=50) (ha:0<a) (ha2:a+1<d.size) (hsz:d.size<=1500000):
  Calls prog 210 #[.slice (some ⟨blk,0,none⟩) d.size cap, .int .i64 a, .pointer (some ⟨B,0,none⟩)] w fun e w'=> ∃m s':Nat,e= .returned (.int .i64 m)/\(m=a - 1∨m=a∨m=a+1)/\s'<=s+3/\Pt w' B s'/\w.grownBy w' (some B):=by
 have HM:=Ab (Uc blk cap (a - 1) a (a+1) B s d w hL hP hB hs (by omega) (by omega) ha2 hsz)
 clear hL hP
 have z1:IntKind.i64.wrap ((a:Int) - 1)=((a - 1:Nat):Int):=by rw[IntKind.wrap_i64];omega
 have z2:IntKind.i64.wrap ((a:Int)+1)=((a+1:Nat):Int):=by rw[IntKind.wrap_i64];omega
 go_enter func210,ntmps210
 go_wp2_with fail
 refine(Aa HM).mono ?_
 rintro e w1 ⟨m,s1,rfl,h1,hs1,hP1,hG1⟩
 have HF:=Ab (And.intro hP1 hG1)
 clear hP1 hG1
 go_wp2
 go_ret
 exact⟨m,s1,rfl,h1,hs1,(Aa HF).1,(Aa HF).2⟩
theorem pivot64 (blk cap a b:Nat) (d:Array Nat) (w:World) (hL:LiesU w blk d) (hab:a<b) (hb:b<=d.size) (hsz:d.size<=1500000):
  Calls prog 200 #[.slice (some ⟨blk,0,none⟩) d.size cap, .int .i64 a, .int .i64 b] w fun e w'=> ∃p h:Nat,e= .returned (.tuple #[.int .i64 p, .int .i64 h])/\a<=p/\p<b/\h<=2/\w.grownBy w' none:=by
 have HL:=Ab hL
 have hlt:=hL.lt
 clear hL
 obtain⟨l,hl⟩: ∃l,l=b - a:=⟨_,rfl⟩
 obtain⟨q,hq⟩: ∃q,q=l / 4:=⟨_,rfl⟩
 obtain⟨i,hi⟩: ∃i,i=a+q:=⟨_,rfl⟩
 obtain⟨j,hj⟩: ∃j,j=a+2 * q:=⟨_,rfl⟩
 obtain⟨k,hk⟩: ∃k,k=a+3 * q:=⟨_,rfl⟩
 have z1:IntKind.i64.wrap ((b:Int) - a)=(l:Int):=by rw[IntKind.wrap_i64];omega
 have z2:(l:Int).tdiv 4=(q:Int):=by rw[Int.tdiv_eq_ediv_of_nonneg (by omega)];omega
 have z2':(l:Int) / 4=(q:Int):=by omega
 have z3:IntKind.i64.wrap ((q:Int))=(q:Int):=by rw[IntKind.wrap_i64];omega
 have z4:IntKind.i64.wrap ((q:Int) * 2)=2 * (q:Int):=by rw[IntKind.wrap_i64];omega
 have z5:IntKind.i64.wrap ((q:Int) * 3)=3 * (q:Int):=by rw[IntKind.wrap_i64];omega
 have z6:IntKind.i64.wrap ((a:Int)+q)=(i:Int):=by rw[IntKind.wrap_i64];omega
 have z7:IntKind.i64.wrap ((a:Int)+2 * (q:Int))=(j:Int):=by rw[IntKind.wrap_i64];omega
 have z8:IntKind.i64.wrap ((a:Int)+3 * (q:Int))=(k:Int):=by rw[IntKind.wrap_i64];omega
 have HQ:=Ab (And.intro hl (And.intro hq (And.intro hi (And.intro hj hk))))
 clear hl hq hi hj hk
 have hP0:Pt (w.alloc (Obj.cells #[Value.int IntKind.i64 0] 3)) w.heap.size 0:=(show (w.heap.push _)[w.heap.size]? =_ from Array.getElem?_push_size)
 have HP0:=Ab hP0
 have hL0:=(Aa HL).grown (((Below.refl _ _).alloc (Nat.le_refl _) (Obj.cells #[Value.int IntKind.i64 0] 3)).block blk hlt)
 have HL0:=Ab hL0
 have HG0:Hid (∀X,(w.alloc (Obj.cells #[Value.int IntKind.i64 0] 3)).grownBy X (some w.heap.size)->w.grownBy X none):=Ab (fun X hX=>by
  have b0:=(Below.refl w.heap.size w).alloc (Nat.le_refl _) (Obj.cells #[Value.int IntKind.i64 0] 3)
  exact⟨hX.os.trans b0.os,hX.tape.trans b0.tape,hX.output.trans b0.output,Nat.le_trans b0.size hX.size,fun c hc _=>by
   rw[hX.block c (Nat.lt_of_lt_of_le hc b0.size) (fun e=>by cases e;omega)]
   exact b0.block c hc⟩)
 have hBB:blk≠w.heap.size:=by omega
 have hBn:some blk≠some w.heap.size:=fun e=>hBB (Option.some.inj e)
 clear hP0 hL0
 by_cases h50:50<=l
 ·have y1:(50:Int)<=l:=by omega
  have y2:(8:Int)<=l:=by omega
  go_enter func200,ntmps200
  go_wp2_with fail
  refine(Nv blk cap i w.heap.size 0 d _ (Aa HL0) (Aa HP0) hBB (by omega) (by have:=Aa HQ;omega) (by have:=Aa HQ;omega) hsz).mono ?_
  rintro e w1 ⟨i1,s1,rfl,h1,hs1,hP1,hG1⟩
  have HL1:=Ab ((Aa HL0).gb hG1 hBn)
  have HP1:=Ab hP1
  have HG1:=Ab hG1
  clear hP1 hG1
  go_wp2_with fail
  refine(Nv blk cap j w.heap.size s1 d w1 (Aa HL1) (Aa HP1) hBB (by omega) (by have:=Aa HQ;omega) (by have:=Aa HQ;omega) hsz).mono ?_
  rintro e w2 ⟨j1,s2,rfl,h2,hs2,hP2,hG2⟩
  have HL2:=Ab ((Aa HL1).gb hG2 hBn)
  have HP2:=Ab hP2
  have HG2:=Ab (Bm (Aa HG1) hG2)
  clear hP2 hG2
  go_wp2_with fail
  refine(Nv blk cap k w.heap.size s2 d w2 (Aa HL2) (Aa HP2) hBB (by omega) (by have:=Aa HQ;omega) (by have:=Aa HQ;omega) hsz).mono ?_
  rintro e w3 ⟨k1,s3,rfl,h3,hs3,hP3,hG3⟩
  have HL3:=Ab ((Aa HL2).gb hG3 hBn)
  have HP3:=Ab hP3
  have HG3:=Ab (Bm (Aa HG2) hG3)
  clear hP3 hG3
  go_wp2_with fail
  refine(Uc blk cap i1 j1 k1 w.heap.size s3 d w3 (Aa HL3) (Aa HP3) hBB (by omega) (by have:=Aa HQ;omega) (by have:=Aa HQ;omega) (by have:=Aa HQ;omega) hsz).mono ?_
  rintro e w4 ⟨m,s4,rfl,h4,hs4,hP4,hG4⟩
  obtain⟨p1,p2,p3⟩:=hP4.cell
  have HF:=Ab (Aa HG0 _ (Bm (Aa HG3) hG4))
  have HR:=Ab (show a<=m/\m<b by have:=Aa HQ;omega)
  clear hP4 hG4 h1 h2 h3 h4
  go_wp2
  all_goals
   go_ret2
   first
    |exact⟨m,1,rfl,(Aa HR).1,(Aa HR).2,by omega,Aa HF⟩
    |exact⟨m,2,rfl,(Aa HR).1,(Aa HR).2,by omega,Aa HF⟩
    |exact⟨m,0,rfl,(Aa HR).1,(Aa HR).2,by omega,Aa HF⟩
 ·by_cases h8:8<=l
  ·have y1: ¬(50:Int)<=l:=by omega
   have y2:(8:Int)<=l:=by omega
   go_enter func200,ntmps200
   go_wp2_with fail
   refine(Uc blk cap i j k w.heap.size 0 d _ (Aa HL0) (Aa HP0) hBB (by omega) (by have:=Aa HQ;omega) (by have:=Aa HQ;omega) (by have:=Aa HQ;omega) hsz).mono ?_
   rintro e w4 ⟨m,s4,rfl,h4,hs4,hP4,hG4⟩
   obtain⟨p1,p2,p3⟩:=hP4.cell
   have HF:=Ab (Aa HG0 _ hG4)
   have HR:=Ab (show a<=m/\m<b by have:=Aa HQ;omega)
   clear hP4 hG4 h4
   go_wp2
   all_goals
    go_ret2
    first
     |exact⟨m,1,rfl,(Aa HR).1,(Aa HR).2,by omega,Aa HF⟩
     |exact⟨m,2,rfl,(Aa HR).1,(Aa HR).2,by omega,Aa HF⟩
     |exact⟨m,0,rfl,(Aa HR).1,(Aa HR).2,by omega,Aa HF⟩
  ·have y1: ¬(50:Int)<=l:=by omega
   have y2: ¬(8:Int)<=l:=by omega
   have HF:=Ab (Aa HG0 _ (Gt _ _))
   have HR:=Ab (show a<=j/\j<b by have:=Aa HQ;omega)
   go_enter func200,ntmps200
   go_wp2
   go_ret2
   exact⟨j,1,rfl,(Aa HR).1,(Aa HR).2,by omega,Aa HF⟩
end
section
open Go Go.Proofs Go.RowKit Go.Sort
def Rn (w:World) (B:Nat) (n:Nat):Prop:=w.heap[B]? =some (.cells #[.int .u64 (n:Int)] 275 (0,0))
theorem Rn.cell {w:World} {B n:Nat} (h:Rn w B n):w.cell? ⟨B,0,none⟩=some (.int .u64 (n:Int))/\w.frozen? ⟨B,0,none⟩=false/\B<w.heap.size:=by
 unfold Rn at h
 exact⟨by simp[go_sem,World.cell?,h],by simp[go_sem,World.frozen?,h],(Array.getElem?_eq_some_iff.1 h).1⟩
theorem next80 (B r:Nat) (w:World) (h:Rn w B r) (hr:r<2^64):
  Calls Tryz.prog 209 #[.pointer (some ⟨B,0,none⟩)] w fun e w'=> ∃r':Nat,r'<2^64/\e= .returned (.int .u64 r')/\Rn w' B r'/\w.grownBy w' (some B):=by
 obtain⟨c,f,hl⟩:=h.cell
 obtain⟨s1,hs1⟩: ∃s1,s1=r * 8192 % 18446744073709551616:=⟨_,rfl⟩
 have a1:IntKind.u64.wrap ((r:Int) * 8192)=(s1:Int):=by simp[IntKind.wrap,IntKind.bits,IntKind.signed];omega
 obtain⟨r1,hr1⟩: ∃r1,r1=r^^^s1:=⟨_,rfl⟩
 have l1:r1<2^64:=by rw[hr1];exact Nat.xor_lt_two_pow hr (by omega)
 have b1:bits .xor .u64 (r:Int) (s1:Int)=(r1:Int):=by rw[hr1];exact u64_xor_nat r s1 hr (by omega)
 obtain⟨s2,hs2⟩: ∃s2,s2=r1 / 128:=⟨_,rfl⟩
 have a2:(r1:Int) / 128=(s2:Int):=by omega
 obtain⟨r2,hr2⟩: ∃r2,r2=r1^^^s2:=⟨_,rfl⟩
 have l2:r2<2^64:=by rw[hr2];exact Nat.xor_lt_two_pow l1 (by omega)
 have b2:bits .xor .u64 (r1:Int) (s2:Int)=(r2:Int):=by rw[hr2];exact u64_xor_nat r1 s2 l1 (by omega)
 obtain⟨s3,hs3⟩: ∃s3,s3=r2 * 131072 % 18446744073709551616:=⟨_,rfl⟩
 have a3:IntKind.u64.wrap ((r2:Int) * 131072)=(s3:Int):=by simp[IntKind.wrap,IntKind.bits,IntKind.signed];omega
 obtain⟨r3,hr3⟩: ∃r3,r3=r2^^^s3:=⟨_,rfl⟩
 have l3:r3<2^64:=by rw[hr3];exact Nat.xor_lt_two_pow l2 (by omega)
 have b3:bits .xor .u64 (r2:Int) (s3:Int)=(r3:Int):=by rw[hr3];exact u64_xor_nat r2 s3 l2 (by omega)
 have HL:=Ab (And.intro l3 h)
 clear l1 l2 l3 hr h hs1 hr1 hs2 hr2 hs3 hr3
 go_enter Tryz.func209,Tryz.ntmps209
 go_wp2_with fail
 go_region
 all_goals go_wp2_with fail
 go_region
 all_goals go_wp2_with fail
 go_region
 obtain⟨X,hX⟩: ∃X,X=(((w.setCell ⟨B,0,none⟩ (.int .u64 (r1:Nat))).setCell ⟨B,0,none⟩ (.int .u64 (r2:Nat))).setCell ⟨B,0,none⟩ (.int .u64 (r3:Nat))).drew.drew.drew:=⟨_,rfl⟩
 have hR:Rn X B r3:=by
  have h:=(Aa HL).2
  unfold Rn at *
  rw[hX]
  show ((((w.setCell ⟨B,0,none⟩ (.int .u64 (r1:Nat))).setCell ⟨B,0,none⟩ (.int .u64 (r2:Nat))).setCell ⟨B,0,none⟩ (.int .u64 (r3:Nat)))).heap[B]? =_
  simp[World.setCell,Array.getElem?_modify,h]
 have hG:w.grownBy X (some B):=by
  rw[hX]
  have g0:=Bm (Bm (Pq w B 0 (.int .u64 (r1:Nat))) (Pq _ B 0 (.int .u64 (r2:Nat)))) (Pq _ B 0 (.int .u64 (r3:Nat)))
  exact⟨g0.os,g0.tape,g0.output,g0.size,g0.block⟩
 rw[←hX]
 have HF:=Ab (And.intro hR hG)
 obtain⟨c',f',hl'⟩:=hR.cell
 clear hX hR hG
 go_wp2
 go_ret
 exact⟨r3,(Aa HL).1,rfl,(Aa HF).1,(Aa HF).2⟩
