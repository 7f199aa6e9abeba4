import Derived.Test.YtieahhciibdnaaaGreatDoorQc
import Derived.RangeFuncNested
import Derived.RangeFuncBound
import Derived.RangeFuncCalls
import Derived.RangeFuncLeaves
import Derived.RangeFuncBox
import Derived.Shelf.Abstract
import Derived.Shelf.RegionOpen
import Derived.OwnWalkIn
import Derived.TacticsInMore
import Derived.LoopNIn
import Derived.LoopIn
import Derived.Maps.AppendAt
import Derived.Laws.BytesArg
import Derived.Laws.IdiomStrings
import Derived.Deep.AppendLies
import Derived.Deep.RegionHeld3
import Derived.Test.YtieahhciibdnaaaGreatDoorChecked
import Derived.WalkSpells
import Derived.WalkLawsBesides
import Derived.Laws.BitsAllLaws
import Derived.Laws.AppendOwn
import Derived.Deep.LoopGhost
import Derived.Sort.Statements
import Derived.BigRegion
set_option linter.all false
namespace Go.Proofs.YtieahhciibdnaaaGreatDoor
set_option maxRecDepth 100000
set_option maxHeartbeats 0
section
open Go.RowKit Go.Shelf
attribute [local go_sem] Oper.semAt_some
abbrev CP:={c:Nat // c<=1114111}
abbrev PT:={x:Nat×Nat // x.2<=1114111}
def wid (c:Nat):Nat:=if 65536<=c then 2 else 1
def pts:Nat->List CP->List PT
 |_, []=> []
 |k,c::r=>⟨(k,c.1),c.2⟩::pts (k+wid c.1) r
def encs (x:PT):Array Value:= #[.int .i64 (x.1.1:Nat), .int .i32 (x.1.2:Nat)]
def bytes (cs:List CP):List Nat:=(cs.map (·.1)).flatMap M.E

theorem Rc {w:World} (h:Lib.Utf8Tabs 1 2 w):3<=w.heap.size:=by
 have:=(h.2 0 (by omega)).1
 rcases Nat.lt_or_ge 2 w.heap.size with h'|h'
 ·omega
 ·simp[World.cell?,Array.getElem?_eq_none h'] at this
theorem Mu {B:Nat} {w w':World} (h:Lib.Utf8Tabs 1 2 w) (hB:3<=B) (hb:Below B w w'):Lib.Utf8Tabs 1 2 w':=
 ⟨fun c hc=>(hb.cell (p:=⟨1,c,none⟩) (by show 1<B;omega)).trans (h.1 c hc),fun i hi=>⟨(hb.cell (p:=⟨2,2 * i,none⟩) (by show 2<B;omega)).trans (h.2 i hi).1,(hb.cell (p:=⟨2,2 * i+1,none⟩) (by show 2<B;omega)).trans (h.2 i hi).2⟩⟩
theorem Ed {w w':World} (h:Below w.heap.size w w'):w.grownBy w' none:=⟨h.os,h.tape,h.output,h.size,fun k hk _=>h.block k hk⟩

theorem Xm {u:ByteArray} (h:Dj u= []):u.toList.isEmpty=true:=by
 unfold Dj at h
 rw[List.map_eq_nil_iff] at h
 simp[Lib.toList_data,h]
theorem Um {u:ByteArray} (h:0<u.size):u.toList.isEmpty=false:=by
 cases hE:u.toList.isEmpty with
 |false=>rfl
 |true=>
  have e:u.data.toList= []:=by simpa [Lib.toList_data] using hE
  have:u.size=0:=by rw[ByteArray.size,←Array.length_toList,e];rfl
  omega
theorem wid_le (c:Nat):wid c<=(M.E c).length:=by
 unfold wid M.E;repeat' split
 all_goals (simp;try omega)
def Rb (u:Nat):Value:= .int .u16 (u:Nat)
def Ve (cs:List Nat):List Nat:=cs.flatMap M.U
theorem Ei {F:Fence} {n:Nat} {P:Program} (w:World) {ops:Array Oper} {o:Oper} {a:Act} {K:Act->World->Prop} {Q:Exit->Act->World->Prop} {E:Prop}
  (hg:o.guard=none) (s x:Operand) (t:TypeId) (hop:o.op=Op.call {callee:=Callee.builtin Builtin.append,args:= #[s,x],argTypes:= #[t,t]})
  (base:Nat) (e:TypeId) (i:TypeInfo) (z:Value) (size bytes:Nat) (h1:P.underlying t=some (.slice e)) (h2:P.info? e=some i) (h3:i.zero=some z) (h4:i.size=size) (h5:i.bytes=bytes) (h6:z.cells.size=size) (h7:0<size)
  (v:Value) (k:Nat) (xs:List Value) (hs:a.eval s=v) (hown:w.ownsRow base e size v k xs) (ad:Addr) (m c:Nat) (news:List Value) (hx:a.eval x= .slice (some ad) m c) (hn:news.length=m * size)
  (hc: ∀j u,news[j]? =some u->w.cell? (ad.add j)=some u) (h1c: ∀u∈news,u.oneCell'=true) (b1:k+m<=maxLen) (b2:(k+m) * bytes<=140737488355328) (b3:base<=w.heap.size)
  (hK: ∀v' w',w'.ownsRow base e size v' (k+m) (xs++news)->w.grownBy w' v.ownBlock->(v'= .slice none 0 0↔v= .slice none 0 0/\m=0)->K (a.put o.dst v') w'):
  if Region.wanted o (yielded ops a.tmps)=true then Oper.wpIn F n P o a w K Q else E:=by
 have hw:Region.wanted o (yielded ops a.tmps)=true:=by simp[Region.wanted,hg]
 rw[if_pos hw]
 obtain⟨v',w',hrun,r1,r2,r3⟩:=run_append_own (P:=P) w base t o.type e i z size bytes h1 h2 h3 h4 h5 h6 h7 v k xs hown ad m c news hn hc h1c b1 b2 b3
 unfold Oper.wpIn
 refine⟨?_, ?_⟩
 ·simp[Oper.about,hop,resolve,Target.leads,Sem.run_pure]
 ·rw[Oper.semAt_plain F _ _ (by rw[hop];intro c hc';cases hc')]
  simp[execOp,hop,resolve,invoke,builtin,hs,hx,hrun,Result.andThen]
  exact hK v' w' r1 r2 r3

def Oe (c:Nat):Nat:=if 65536<=c then 55296+(c - 65536) / 1024 else c
def Ui (c:Nat):Nat:=56320+(c - 65536) % 1024
theorem U_one {c:Nat} (h: ¬65536<=c):M.U c= [Oe c]:=by simp[M.U,Oe,h,Nat.lt_of_not_le h]
theorem Zdp {c:Nat} (h:65536<=c):M.U c= [Oe c,Ui c]:=by simp[M.U,Oe,Ui,h,Nat.not_lt.2 h]

def uN (l:List PT):List Nat:=l.flatMap fun x=>M.U x.1.2
theorem Pm (l:List PT) (x:PT):uN (l++ [x])=uN l++M.U x.1.2:=by simp[uN]
theorem uN_pts: ∀(k:Nat) (cs:List CP),uN (pts k cs)=Ve (cs.map (·.1))
 |_, []=>rfl
 |k,c::r=>by
  have:=uN_pts (k+wid c.1) r
  simp only[uN,Ve,pts,List.flatMap_cons,List.map_cons] at *
  rw[this]
theorem ZcU: ∀(k:Nat) (cs:List CP),(pts k cs).length=cs.length
 |_, []=>rfl
 |k,c::r=>by simp[pts,ZcU]
theorem U_len (c:Nat):(M.U c).length<=2:=by unfold M.U;split<;>simp
theorem uN_len (l:List PT):(uN l).length<=2 * l.length:=by
 induction l with
 |nil=>simp[uN]
 |cons x r ih=>have:=U_len x.1.2;simp only[uN,List.flatMap_cons,List.length_append,List.length_cons] at *;omega
theorem Zag: ∀(cs:List CP),cs.length<=(bytes cs).length
 | []=>by simp[bytes]
 |c::r=>by
  have:=Zag r;have:=M.E_len c.1
  simp only[bytes,List.map_cons,List.flatMap_cons,List.length_append,List.length_cons] at *;omega

end
section
open Go.RowKit Go.Shelf
def Reads (w:World) (v:Value) (l:List Nat):Prop:=
 (∃A c,v= .slice A 0 c/\l= [])∨ ∃b off cap,v= .slice (some ⟨b,off,none⟩) l.length cap/\b<w.heap.size/\ ∀i,i<l.length->w.cell? ⟨b,off+i,none⟩=some (.int .u16 (l.getD i 0:Nat))
theorem Reads.same {w w':World} {v:Value} {l:List Nat} (h:Reads w v l) (hb:Below w.heap.size w w'):Reads w' v l:=by
 rcases h with h|⟨b,off,cap,rfl,hlt,hc⟩
 ·exact .inl h
 ·exact .inr ⟨b,off,cap,rfl,Nat.lt_of_lt_of_le hlt hb.size,fun i hi=>(hb.cell (p:=⟨b,off+i,none⟩) hlt).trans (hc i hi)⟩

theorem Rw (l:List Nat) (k:Nat) (h:k<l.length):l.drop k=l.getD k 0::l.drop (k+1):=by
 rw[List.drop_eq_getElem_cons h,List.getD_eq_getElem?_getD,List.getElem?_eq_getElem h];rfl

theorem Vg: ∀(n:Nat) (l:List Nat) (c d:Nat),M.tailN n l c=some d->d<64^n * (c+1)
 |0,_,c,d,h=>by simp[M.tailN] at h;omega
 |n+1,l,c,d,h=>by
  unfold M.tailN at h
  split at h
  ·simp at h
  ·split at h
   ·simp at h
   ·rename_i b t hb
    have:=Vg n t (64 * c+(b - 128)) d h
    have h2:64^n * (64 * c+(b - 128)+1)<=64^n * (64 * (c+1)):=Nat.mul_le_mul_left _ (by omega)
    rw[Nat.pow_succ]
    have h3:64^n * 64 * (c+1)=64^n * (64 * (c+1)):=by rw[Nat.mul_assoc]
    omega
theorem ZaZ: ∀(n:Nat) (l:List Nat) (c d:Nat),M.tailN n l c=some d->n<=l.length
 |0,_,_,_,_=>Nat.zero_le _
 |n+1,l,c,d,h=>by
  unfold M.tailN at h
  split at h
  ·simp at h
  ·split at h
   ·simp at h
   ·rename_i b t hb
    have:=ZaZ n t _ d h
    simp;omega
def rdL (s:ByteArray):List Nat:=(M.rd (Dj s)).getD []

theorem nums_inj {s t:ByteArray} (h:Dj s=Dj t):s=t:=by
 have h1:s.data.toList=t.data.toList:=by
  have h2:=congrArg (List.map UInt8.ofNat) h
  unfold Dj at h2
  simpa [List.map_map,Function.comp_def] using h2
 cases s;cases t
 simp only[ByteArray.mk.injEq]
 exact Array.toList_inj.1 h1
theorem toList_inj {s t:ByteArray} (h:s.toList=t.toList):s=t:=by
 rw[Lib.toList_data,Lib.toList_data] at h
 cases s;cases t
 simp only[ByteArray.mk.injEq]
 exact Array.toList_inj.1 h
theorem Zp {w:World} {B:Nat} {v:Value} {l:List Nat} (h:w.ownsRow B 103 1 v l.length (l.map Rb)):Reads w v l:=by
 rcases h.2 with ⟨rfl,h0⟩|⟨g,cap,cur,rfl,hBg,hgb,hnc,hcm,hcs,htk⟩
 ·exact .inl ⟨none,0,rfl,List.length_eq_zero_iff.1 h0⟩
 ·refine .inr ⟨g,0,cap,rfl,(Array.getElem?_eq_some_iff.1 hgb).1,fun i hi=> ?_⟩
  rw[Nat.zero_add,h.cellAt i (by omega),List.getElem?_map,List.getElem?_eq_getElem hi,List.getD_eq_getElem?_getD,List.getElem?_eq_getElem hi]
  rfl
theorem rd1_tail {l:List Nat} {c n:Nat} (h:M.rd1 l=some (c,n)):1+n<=l.length/\(M.U c).length<=1+n:=by
 unfold M.rd1 at h
 split at h
 ·simp at h
 ·split at h
  ·simp at h
  ·rename_i b t n' base hh
   split at h
   ·simp at h
   ·rename_i d htl
    split at h
    ·simp at h
    ·simp only[Option.some.injEq,Prod.mk.injEq] at h
     obtain⟨h1,h2⟩:=h
     have:=ZaZ _ _ _ _ htl
     have hb:=Vg _ _ _ _ htl
     subst h2
     refine⟨by simp;omega, ?_⟩
     have hUl:=U_len c
     cases n' with
     |zero=>
      have hb0:base<128:=by
       unfold M.head at hh
       repeat' split at hh
       all_goals simp at hh
       omega
      simp at hb h1
      have:c<65536:=by omega
      unfold M.U;rw[if_pos this];simp
     |succ m=>omega
theorem rd_len: ∀(n:Nat) (l u:List Nat),l.length<=n->M.rd l=some u->u.length<=l.length:=by
 intro n
 induction n with
 |zero=>
  intro l u hl h
  have:l= []:=List.eq_nil_of_length_eq_zero (by omega)
  subst this
  rw[M.rd_nil] at h;cases h;simp
 |succ n ih=>
  intro l u hl h
  by_cases hne:l= []
  ·subst hne;rw[M.rd_nil] at h;cases h;simp
  ·rw[M.rd_step l hne] at h
   have hl0:0<l.length:=List.length_pos_iff.2 hne
   cases h1:M.rd1 l with
   |none=>rw[h1] at h;simp at h
   |some p=>
    obtain⟨c,k⟩:=p
    rw[h1] at h
    simp only[Option.map_eq_some_iff] at h
    obtain⟨v,hv,rfl⟩:=h
    have:=ih _ v (by simp;omega) hv
    have:=rd1_tail h1
    simp only[List.length_append,List.length_drop] at *;omega
theorem rdL_len (s:ByteArray):(rdL s).length<=s.size:=by
 unfold rdL
 cases h:M.rd (Dj s) with
 |none=>simp
 |some u=>have:=rd_len _ _ u (Nat.le_refl _) h;rw[Ek] at this;simpa using this

def vS (s:ByteArray):Bool:=M.valid false (Dj s)
def unS (s:ByteArray):List Nat:=if vS s then rdL s else []
theorem Vm {w:World} {v:Value} {l:List Nat} (hR:Reads w v l): ∃A cap,v= .slice A l.length cap/\(∀i,i<l.length-> ∃b off,A=some ⟨b,off,none⟩/\b<w.heap.size/\w.cell? ⟨b,off+i,none⟩=some (.int .u16 (l.getD i 0:Nat))):=by
 rcases hR with ⟨A,c,rfl,rfl⟩|⟨b,off,cap,rfl,hlt,hc⟩
 ·exact⟨A,c,rfl,fun i hi=>by simp at hi⟩
 ·exact⟨_,_,rfl,fun i hi=>⟨b,off,rfl,hlt,hc i hi⟩⟩
end
section
open Go Go.Proofs Go.RowKit Go.Sort Tryz
def ZcB (n:Nat):Value:= .int .u32 (n:Int)
def LiesU (w:World) (blk:Nat) (d:Array Nat):Prop:= ∃r:Array Value,w.heap[blk]? =some (.cells (d.map ZcB++r) 193 (0,0))
theorem LiesU.lt {w:World} {blk:Nat} {d:Array Nat} (h:LiesU w blk d):blk<w.heap.size:=by
 obtain⟨r,h⟩:=h
 exact(Array.getElem?_eq_some_iff.1 h).1
theorem LiesU.cell {w:World} {blk:Nat} {d:Array Nat} (h:LiesU w blk d) (j:Nat) (hj:j<d.size):w.cell? ⟨blk,j,none⟩=some (.int .u32 (d[j]! :Nat))/\w.frozen? ⟨blk,j,none⟩=false:=by
 obtain⟨r,h⟩:=h
 refine⟨?_, ?_⟩
 ·simp[go_sem,World.cell?,h,hj,Array.getElem?_append_left,ZcB]
 ·simp[go_sem,World.frozen?,h]
theorem Dn (d:Array Nat) (i j:Nat):(swp d i j).size=d.size:=by simp[swp]
theorem set_row (d:Array Nat) (r:Array Value) (i x:Nat) (hi:i<d.size):(d.map ZcB++r).setIfInBounds i (ZcB x)=(d.setIfInBounds i x).map ZcB++r:=by
 apply Array.toList_inj.1
 simp only[Array.toList_setIfInBounds,Array.toList_append,Array.toList_map]
 rw[List.set_append_left _ _ (by simpa using hi),List.map_set]
theorem LiesU.set {w:World} {blk:Nat} {d:Array Nat} (h:LiesU w blk d) (i x:Nat) (hi:i<d.size):LiesU (w.setCell ⟨blk,i,none⟩ (.int .u32 (x:Nat))) blk (d.setIfInBounds i x):=by
 obtain⟨r,h⟩:=h
 refine⟨r, ?_⟩
 rw[←set_row d r i x hi]
 simp[World.setCell,Array.getElem?_modify,h]
 rfl
theorem LiesU.swap {w:World} {blk:Nat} {d:Array Nat} (h:LiesU w blk d) (i j:Nat) (hi:i<d.size) (hj:j<d.size):
  LiesU ((w.setCell ⟨blk,i,none⟩ (.int .u32 (d[j]! :Nat))).setCell ⟨blk,j,none⟩ (.int .u32 (d[i]! :Nat))) blk (swp d i j):=by
 unfold swp
 exact(h.set i _ hi).set j _ (by simpa using hj)
theorem Jk (w:World) (o:Option Nat):w.grownBy w o:=⟨rfl,rfl,rfl,Nat.le_refl _,fun _ _ _=>rfl⟩
theorem Bt {w w1 w2:World} {o:Option Nat} (h:w.grownBy w1 o) (k:w1.grownBy w2 o):w.grownBy w2 o:=
 ⟨k.os.trans h.os,k.tape.trans h.tape,k.output.trans h.output,Nat.le_trans h.size k.size,fun b hb ho=>(k.block b (Nat.lt_of_lt_of_le hb h.size) ho).trans (h.block b hb ho)⟩
theorem Rl (w:World) (blk o:Nat) (v:Value):w.grownBy (w.setCell ⟨blk,o,none⟩ v) (some blk):=by
 refine⟨rfl,rfl,rfl,by simp[World.setCell], ?_⟩
 intro k _ hne
 have:blk≠k:=fun e=>hne (by rw[e])
 simp[World.setCell,Array.getElem?_modify,this]
theorem Dq (w:World) (blk i j:Nat) (v u:Value):w.grownBy ((w.setCell ⟨blk,i,none⟩ v).setCell ⟨blk,j,none⟩ u) (some blk):=Bt (Rl _ _ _ _) (Rl _ _ _ _)
def ltN (x y:Nat):Bool:=decide (x<y)
theorem nan36 (x:Nat) (w:World):Calls prog 211 #[.int .u32 (x:Nat)] w fun e w'=>e= .returned (.bool false)/\w'=w:=by
 go_enter func211,ntmps211
 go_wp2
 go_ret
 exact⟨rfl,rfl⟩
theorem Ef (x y:Nat) (w:World):Calls prog 204 #[.int .u32 (x:Nat), .int .u32 (y:Nat)] w fun e w'=>e= .returned (.bool (ltN x y))/\w'=w:=by
 have hr:((x:Int)<y)=(x<y):=by simp
 unfold ltN
 go_enter func204,ntmps204
 go_wp2_with fail
 refine(nan36 x _).mono ?_
 rintro e w' ⟨rfl,rfl⟩
 go_wp2
 go_ret
 refine⟨?_,rfl⟩
 simp
theorem LiesU.grown {w w':World} {blk:Nat} {d:Array Nat} (h:LiesU w blk d) (hb:w'.heap[blk]? =w.heap[blk]?):LiesU w' blk d:=by
 obtain⟨r,h⟩:=h
 exact⟨r,hb.trans h⟩
theorem LiesU.drew {w:World} {blk:Nat} {d:Array Nat} (h:LiesU w blk d) (n:Nat):LiesU (w.drewN n) blk d:=h.grown rfl
theorem Dm {w w':World} {o:Option Nat} (h:w.grownBy w' o) (n:Nat):w.grownBy (w'.drewN n) o:=⟨h.os,h.tape,h.output,h.size,h.block⟩
theorem insI_go (a j:Nat) (d:Array Nat) (hj:a<j) (hl:ltN d[j]! d[j - 1]! =true):insInner ltN a j d=insInner ltN a (j - 1) (swp d j (j - 1)):=by
 cases j with
 |zero=>omega
 |succ j=>
  simp only[Nat.add_sub_cancel] at hl ⊢
  rw[insInner,if_pos]
  simp[hl,hj]
theorem Zv (a j:Nat) (d:Array Nat) (h:j<=a∨ltN d[j]! d[j - 1]! =false):insInner ltN a j d=d:=by
 cases j with
 |zero=>rfl
 |succ j=>
  rw[insInner,if_neg]
  simp only[Nat.add_sub_cancel] at h
  rcases h with h|h
  ·simp;omega
  ·simp[h]
theorem Zc7 (a b i:Nat) (d:Array Nat) (h:i<b):insOuter ltN a b i d=insOuter ltN a b (i+1) (insInner ltN a i d):=by rw[insOuter,if_pos h]
theorem ZdX (a b i:Nat) (d:Array Nat) (h: ¬i<b):insOuter ltN a b i d=d:=by rw[insOuter,if_neg h]
theorem ZbA (blk cap a b:Nat) (d:Array Nat) (w:World) (hL:LiesU w blk d) (hab:a<=b) (hb:b<=d.size) (hsz:d.size<=1500000):
  Calls prog 198 #[.slice (some ⟨blk,0,none⟩) d.size cap, .int .i64 a, .int .i64 b] w fun e w'=>e= .returned (.tuple #[])/\LiesU w' blk (insertionSort ltN d a b)/\w.grownBy w' (some blk):=by
 have HL:=Ab hL
 clear hL
 go_enter func198,ntmps198
 go_wp2_with fail
 go_loopg [6] (b+1) (fun g s6 wr=> ∃(i:Nat) (dk:Array Nat),s6= .int .i64 i/\a<i/\i<=b+1/\b+1 - i<=g/\Hid (dk.size=d.size)/\Hid (LiesU wr blk dk)/\Hid (w.grownBy wr (some blk))/\Hid (insOuter ltN a b i dk=insertionSort ltN d a b))
 case atStart=>exact⟨a+1,d,by go_num,by omega,by omega,by omega,Ab rfl,HL,Ab (Jk _ _),Ab rfl⟩
 case round=>
  obtain⟨i,dk,rfl,hai,hib,hg,hsk,hLk,hGk,hOk⟩:=hrel
  by_cases hlt:i<b
  ·have hiz:(i:Int)<b:=by omega
   go_wp2_with fail
   go_loopg [7] i (fun g s7 wr=> ∃(j:Nat) (dj:Array Nat),s7= .int .i64 j/\a<=j/\j<=i/\j<=g/\Hid (dj.size=d.size)/\Hid (LiesU wr blk dj)/\Hid (w.grownBy wr (some blk))/\Hid (insInner ltN a j dj=insInner ltN a i dk))
   case atStart=>exact⟨i,dk,rfl,by omega,Nat.le_refl _,Nat.le_refl _,hsk,hLk,hGk,Ab rfl⟩
   case round=>
    obtain⟨j,dj,rfl,haj,hji,hg2,hsj,hLj,hGj,hIj⟩:=hrel
    have hds:=Aa hsj
    by_cases hja:a<j
    ·obtain⟨c1,f1⟩:=(Aa hLj).cell j (by omega)
     obtain⟨c2,f2⟩:=(Aa hLj).cell (j - 1) (by omega)
     have HGo:=Ab (insI_go a j dj hja)
     have HSt:=Ab (fun h=>Zv a j dj (.inr h))
     have HSw:=Ab (fun n=>((Aa hLj).drew n).swap j (j - 1) (by omega) (by omega))
     have z1:(a:Int)<j:=by omega
     have z2:(j:Int)<d.size:=by omega
     have z3:(j:Int) - 1<d.size:=by omega
     have z4:(0:Int)<=(j:Int) - 1:=by omega
     have z5:((j:Int) - 1).toNat=j - 1:=by omega
     have z6:IntKind.i64.wrap ((j:Int) - 1)=(j:Int) - 1:=by rw[IntKind.wrap_i64];omega
     have z7:(0:Int)<=j:=by omega
     clear hds
     generalize dj[j]! =x at *
     generalize dj[j - 1]! =y at *
     have HC:=Ab (Ef x y)
     generalize ltN x y=r at *
     cases r
     ·have HE:=Ab (Aa HSt rfl)
      clear HSt HGo HSw
      go_wp2_with fail
      go_quiet ((go_at_call 204;refine Calls.quiet_of_same (Aa HC _)))
      go_wp2
      go_roundg (b+1 - (i+1))
      case measure=>omega
      case rel=>
       refine⟨i+1,dj,by go_num,by omega,by omega,Nat.le_refl _,hsj,Ab ((Aa hLj).drew _),Ab (Dm (Aa hGj) _),Ab ?_⟩
       rw[←Aa hOk,Zc7 _ _ _ _ hlt,←Aa hIj,Aa HE]
     ·have HE:=Ab (Aa HGo rfl)
      clear HSt HGo
      go_wp2_with fail
      go_quiet ((go_at_call 204;refine Calls.quiet_of_same (Aa HC _)))
      go_wp2_with fail
      go_region
      all_goals go_wp2
      go_roundg (j - 1)
      case measure=>omega
      case rel=>exact⟨j - 1,swp dj j (j - 1),by go_num,by omega,by omega,Nat.le_refl _,Ab (by rw[Dn];exact Aa hsj),Ab (Aa HSw _),Ab (Bt (Dm (Aa hGj) _) (Dq _ _ _ _ _ _)),Ab (by rw[←Aa HE];exact Aa hIj)⟩
    ·have z1: ¬(a:Int)<j:=by omega
     have HE:=Ab (Zv a j dj (.inl (by omega)))
     go_wp2_with fail
     go_quiet (fail)
     go_wp2
     go_roundg (b+1 - (i+1))
     case measure=>omega
     case rel=>
      refine⟨i+1,dj,by go_num,by omega,by omega,Nat.le_refl _,hsj,Ab ((Aa hLj).drew _),Ab (Dm (Aa hGj) _),Ab ?_⟩
      rw[←Aa hOk,Zc7 _ _ _ _ hlt,←Aa hIj,Aa HE]
  ·have hiz: ¬(i:Int)<b:=by omega
   go_wp2
   go_end0
   refine⟨rfl, ?_,Aa hGk⟩
   rw[←Aa hOk,ZdX _ _ _ _ hlt]
   exact Aa hLk
end
section
open Go Go.Proofs Go.RowKit Go.Sort
theorem rv_go (i j:Nat) (d:Array Nat) (h:i<j):reverseLoop i j d=reverseLoop (i+1) (j - 1) (swp d i j):=by rw[reverseLoop,if_pos h]
theorem rv_stop (i j:Nat) (d:Array Nat) (h: ¬i<j):reverseLoop i j d=d:=by rw[reverseLoop,if_neg h]
theorem ZdF (blk cap a b:Nat) (d:Array Nat) (w:World) (hL:LiesU w blk d) (hab:a<b) (hb:b<=d.size) (hsz:d.size<=1500000):
  Calls Tryz.prog 202 #[.slice (some ⟨blk,0,none⟩) d.size cap, .int .i64 a, .int .i64 b] w fun e w'=>e= .returned (.tuple #[])/\LiesU w' blk (reverseRange d a b)/\w.grownBy w' (some blk):=by
 have HL:=Ab hL
 clear hL
 have zb:IntKind.i64.wrap ((b:Int) - 1)=((b - 1:Nat):Int):=by rw[IntKind.wrap_i64];omega
 go_enter Tryz.func202,Tryz.ntmps202
 go_wp2_with fail
 go_loopg [6,7] (b+1) (fun g s6 s7 wr=> ∃(i j:Nat) (dk:Array Nat),s6= .int .i64 i/\s7= .int .i64 j/\a<=i/\i<=b/\j<b/\b+1 - i<=g/\Hid (dk.size=d.size)/\Hid (LiesU wr blk dk)/\Hid (w.grownBy wr (some blk))/\Hid (reverseLoop i j dk=reverseRange d a b))
 case atStart=>exact⟨a,b - 1,d,rfl,rfl,Nat.le_refl _,by omega,by omega,by omega,Ab rfl,HL,Ab (Jk _ _),Ab rfl⟩
 case round=>
  obtain⟨i,j,dk,rfl,rfl,hai,hib,hjb,hg,hsk,hLk,hGk,hOk⟩:=hrel
  have hds:=Aa hsk
  by_cases hlt:i<j
  ·have hiz:(i:Int)<j:=by omega
   obtain⟨c1,f1⟩:=(Aa hLk).cell i (by omega)
   obtain⟨c2,f2⟩:=(Aa hLk).cell j (by omega)
   have HGo:=Ab (rv_go i j dk hlt)
   have HSw:=Ab (fun n=>((Aa hLk).drew n).swap i j (by omega) (by omega))
   have z2:(j:Int)<d.size:=by omega
   have z3:(i:Int)<d.size:=by omega
   have z4:IntKind.i64.wrap ((j:Int) - 1)=((j - 1:Nat):Int):=by rw[IntKind.wrap_i64];omega
   have z5:IntKind.i64.wrap ((i:Int)+1)=((i+1:Nat):Int):=by rw[IntKind.wrap_i64];omega
   have n1: ¬i=j:=by omega
   have n2: ¬j=i:=by omega
   clear hds
   generalize dk[i]! =x at *
   generalize dk[j]! =y at *
   go_wp2_with fail
   go_region
   all_goals go_wp2
   go_roundg (b+1 - (i+1))
   case measure=>omega
   case rel=>exact⟨i+1,j - 1,swp dk i j,by go_num,by go_num,by omega,by omega,by omega,Nat.le_refl _,Ab (by rw[Dn];exact Aa hsk),Ab (Aa HSw _),Ab (Bt (Dm (Aa hGk) _) (Dq _ _ _ _ _ _)),Ab (by rw[←Aa HGo];exact Aa hOk)⟩
  ·have hiz: ¬(i:Int)<j:=by omega
   go_wp2
   go_end0
   refine⟨rfl, ?_,Aa hGk⟩
   rw[←Aa hOk,rv_stop _ _ _ hlt]
   exact Aa hLk
def Pt (w:World) (B:Nat) (n:Nat):Prop:=w.heap[B]? =some (.cells #[.int .i64 (n:Int)] 3 (0,0))
theorem Pt.cell {w:World} {B n:Nat} (h:Pt w B n):w.cell? ⟨B,0,none⟩=some (.int .i64 (n:Int))/\w.frozen? ⟨B,0,none⟩=false/\B<w.heap.size:=by
 unfold Pt at h
 exact⟨by simp[go_sem,World.cell?,h],by simp[go_sem,World.frozen?,h],(Array.getElem?_eq_some_iff.1 h).1⟩
theorem Pt.set {w:World} {B n:Nat} (h:Pt w B n) (m:Nat):Pt (w.setCell ⟨B,0,none⟩ (.int .i64 (m:Int))) B m:=by
 unfold Pt at *
 simp[World.setCell,Array.getElem?_modify,h]
theorem Zax (blk cap a b B s:Nat) (d:Array Nat) (w:World) (hL:LiesU w blk d) (hP:Pt w B s) (hs:s<=100) (ha:a<d.size) (hb:b<d.size) (hsz:d.size<=1500000):
  Calls Tryz.prog 216 #[.slice (some ⟨blk,0,none⟩) d.size cap, .int .i64 a, .int .i64 b, .pointer (some ⟨B,0,none⟩)] w fun e w'=> ∃x y s':Nat,e= .returned (.tuple #[.int .i64 x, .int .i64 y])/\(x=a/\y=b∨x=b/\y=a)/\s'<=s+1/\Pt w' B s'/\w.grownBy w' (some B):=by
 obtain⟨c1,f1⟩:=hL.cell a ha
 obtain⟨c2,f2⟩:=hL.cell b hb
 obtain⟨p1,p2,p3⟩:=hP.cell
 have HP:=Ab hP
 have z1:(a:Int)<d.size:=by omega
 have z2:(b:Int)<d.size:=by omega
 have z3:IntKind.i64.wrap ((s:Int)+1)=((s+1:Nat):Int):=by rw[IntKind.wrap_i64];omega
 clear hL hP
 generalize d[a]! =x at *
 generalize d[b]! =y at *
 have HC:=Ab (Ef y x)
 generalize ltN y x=r at *
 cases r
 ·go_enter Tryz.func216,Tryz.ntmps216
  go_wp2_with fail
  go_quiet ((go_at_call 204;refine Calls.quiet_of_same (Aa HC _)))
  go_wp2
  go_ret2
  exact⟨a,b,s,rfl, .inl ⟨rfl,rfl⟩,by omega,Aa HP,Dm (Jk _ _) _⟩
 ·go_enter Tryz.func216,Tryz.ntmps216
  go_wp2_with fail
  go_quiet ((go_at_call 204;refine Calls.quiet_of_same (Aa HC _)))
  go_wp2
  go_ret2
  exact⟨b,a,s+1,rfl, .inr ⟨rfl,rfl⟩,by omega,Pt.set (w:=w.drewN _) (Aa HP) (s+1),Bt (Dm (Jk _ _) _) (Rl _ _ _ _)⟩
end
section
open Go Go.Proofs Go.RowKit Go.Sort Tryz
theorem LiesU.gb {w w':World} {blk:Nat} {d:Array Nat} {o:Option Nat} (h:LiesU w blk d) (hg:w.grownBy w' o) (hne:some blk≠o):LiesU w' blk d:=h.grown (hg.block blk h.lt hne)
theorem Vz (blk cap a b c B s:Nat) (d:Array Nat) (w:World) (hL:LiesU w blk d) (hP:Pt w B s) (hB:blk≠B) (hs:s<=50) (ha:a<d.size) (hb:b<d.size) (hc:c<d.size) (hsz:d.size<=1500000):
  Calls prog 210 #[.slice (some ⟨blk,0,none⟩) d.size cap, .int .i64 a, .int .i64 b, .int .i64 c, .pointer (some ⟨B,0,none⟩)] w fun e w'=> ∃m s':Nat,e= .returned (.int .i64 m)/\(m=a∨m=b∨m=c)/\s'<=s+3/\Pt w' B s'/\w.grownBy w' (some B):=by
 have HL:=Ab hL
 have HP:=Ab hP
 have hBn:some blk≠some B:=fun e=>hB (Option.some.inj e)
 clear hL hP
 go_enter func210,ntmps210
 go_wp2_with fail
 refine(Zax blk cap a b B s d w (Aa HL) (Aa HP) (by omega) ha hb hsz).mono ?_
 rintro e w1 ⟨x1,y1,s1,rfl,h1,hs1,hP1,hG1⟩
 have HL1:=Ab ((Aa HL).gb hG1 hBn)
 have HP1:=Ab hP1
 have HG1:=Ab hG1
 clear hP1 hG1
 go_wp2_with fail
 refine(Zax blk cap y1 c B s1 d w1 (Aa HL1) (Aa HP1) (by omega) (by omega) hc hsz).mono ?_
 rintro e w2 ⟨x2,y2,s2,rfl,h2,hs2,hP2,hG2⟩
 have HL2:=Ab ((Aa HL1).gb hG2 hBn)
 have HP2:=Ab hP2
 have HG2:=Ab (Bt (Aa HG1) hG2)
 clear hP2 hG2
 go_wp2_with fail
 refine(Zax blk cap x1 x2 B s2 d w2 (Aa HL2) (Aa HP2) (by omega) (by omega) (by omega) hsz).mono ?_
 rintro e w3 ⟨x3,y3,s3,rfl,h3,hs3,hP3,hG3⟩
 have HF:=Ab (And.intro hP3 (Bt (Aa HG2) hG3))
 clear hP3 hG3
 go_wp2
 go_ret
 exact⟨y3,s3,rfl,by omega,by omega,(Aa HF).1,(Aa HF).2⟩
theorem Pi (blk cap a B s:Nat) (d:Array Nat) (w:World) (hL:LiesU w blk d) (hP:Pt w B s) (hB:blk≠B) (hs:s<=50) (ha:0<a) (ha2:a+1<d.size) (hsz:d.size<=1500000):
  Calls prog 209 #[.slice (some ⟨blk,0,none⟩) d.size cap, .int .i64 a, .pointer (some ⟨B,0,none⟩)] w fun e w'=> ∃m s':Nat,e= .returned (.int .i64 m)/\(m=a - 1∨m=a∨m=a+1)/\s'<=s+3/\Pt w' B s'/\w.grownBy w' (some B):=by
 have HM:=Ab (Vz blk cap (a - 1) a (a+1) B s d w hL hP hB hs (by omega) (by omega) ha2 hsz)
 clear hL hP
 have z1:IntKind.i64.wrap ((a:Int) - 1)=((a - 1:Nat):Int):=by rw[IntKind.wrap_i64];omega
 have z2:IntKind.i64.wrap ((a:Int)+1)=((a+1:Nat):Int):=by rw[IntKind.wrap_i64];omega
 go_enter func209,ntmps209
 go_wp2_with fail
 refine(Aa HM).mono ?_
 rintro e w1 ⟨m,s1,rfl,h1,hs1,hP1,hG1⟩
 have HF:=Ab (And.intro hP1 hG1)
 clear hP1 hG1
 go_wp2
 go_ret
 exact⟨m,s1,rfl,h1,hs1,(Aa HF).1,(Aa HF).2⟩
theorem pivot64 (blk cap a b:Nat) (d:Array Nat) (w:World) (hL:LiesU w blk d) (hab:a<b) (hb:b<=d.size) (hsz:d.size<=1500000):
  Calls prog 201 #[.slice (some ⟨blk,0,none⟩) d.size cap, .int .i64 a, .int .i64 b] w fun e w'=> ∃p h:Nat,e= .returned (.tuple #[.int .i64 p, .int .i64 h])/\a<=p/\p<b/\h<=2/\w.grownBy w' none:=by
 have HL:=Ab hL
 have hlt:=hL.lt
 clear hL
 obtain⟨l,hl⟩: ∃l,l=b - a:=⟨_,rfl⟩
 obtain⟨q,hq⟩: ∃q,q=l / 4:=⟨_,rfl⟩
 obtain⟨i,hi⟩: ∃i,i=a+q:=⟨_,rfl⟩
 obtain⟨j,hj⟩: ∃j,j=a+2 * q:=⟨_,rfl⟩
 obtain⟨k,hk⟩: ∃k,k=a+3 * q:=⟨_,rfl⟩
 have z1:IntKind.i64.wrap ((b:Int) - a)=(l:Int):=by rw[IntKind.wrap_i64];omega
 have z2:(l:Int).tdiv 4=(q:Int):=by rw[Int.tdiv_eq_ediv_of_nonneg (by omega)];omega
 have z2':(l:Int) / 4=(q:Int):=by omega
 have z3:IntKind.i64.wrap ((q:Int))=(q:Int):=by rw[IntKind.wrap_i64];omega
 have z4:IntKind.i64.wrap ((q:Int) * 2)=2 * (q:Int):=by rw[IntKind.wrap_i64];omega
 have z5:IntKind.i64.wrap ((q:Int) * 3)=3 * (q:Int):=by rw[IntKind.wrap_i64];omega
 have z6:IntKind.i64.wrap ((a:Int)+q)=(i:Int):=by rw[IntKind.wrap_i64];omega
 have z7:IntKind.i64.wrap ((a:Int)+2 * (q:Int))=(j:Int):=by rw[IntKind.wrap_i64];omega
 have z8:IntKind.i64.wrap ((a:Int)+3 * (q:Int))=(k:Int):=by rw[IntKind.wrap_i64];omega
 have HQ:=Ab (And.intro hl (And.intro hq (And.intro hi (And.intro hj hk))))
 clear hl hq hi hj hk
 have hP0:Pt (w.alloc (Obj.cells #[Value.int IntKind.i64 0] 3)) w.heap.size 0:=(show (w.heap.push _)[w.heap.size]? =_ from Array.getElem?_push_size)
 have HP0:=Ab hP0
 have hL0:=(Aa HL).grown (((Below.refl _ _).alloc (Nat.le_refl _) (Obj.cells #[Value.int IntKind.i64 0] 3)).block blk hlt)
 have HL0:=Ab hL0
 have HG0:Hid (∀X,(w.alloc (Obj.cells #[Value.int IntKind.i64 0] 3)).grownBy X (some w.heap.size)->w.grownBy X none):=Ab (fun X hX=>by
  have b0:=(Below.refl w.heap.size w).alloc (Nat.le_refl _) (Obj.cells #[Value.int IntKind.i64 0] 3)
  exact⟨hX.os.trans b0.os,hX.tape.trans b0.tape,hX.output.trans b0.output,Nat.le_trans b0.size hX.size,fun c hc _=>by
   rw[hX.block c (Nat.lt_of_lt_of_le hc b0.size) (fun e=>by cases e;omega)]
   exact b0.block c hc⟩)
 have hBB:blk≠w.heap.size:=by omega
 have hBn:some blk≠some w.heap.size:=fun e=>hBB (Option.some.inj e)
 clear hP0 hL0
 by_cases h50:50<=l
 ·have y1:(50:Int)<=l:=by omega
  have y2:(8:Int)<=l:=by omega
  go_enter func201,ntmps201
  go_wp2_with fail
  refine(Pi blk cap i w.heap.size 0 d _ (Aa HL0) (Aa HP0) hBB (by omega) (by have:=Aa HQ;omega) (by have:=Aa HQ;omega) hsz).mono ?_
  rintro e w1 ⟨i1,s1,rfl,h1,hs1,hP1,hG1⟩
  have HL1:=Ab ((Aa HL0).gb hG1 hBn)
  have HP1:=Ab hP1
  have HG1:=Ab hG1
  clear hP1 hG1
  go_wp2_with fail
  refine(Pi blk cap j w.heap.size s1 d w1 (Aa HL1) (Aa HP1) hBB (by omega) (by have:=Aa HQ;omega) (by have:=Aa HQ;omega) hsz).mono ?_
  rintro e w2 ⟨j1,s2,rfl,h2,hs2,hP2,hG2⟩
  have HL2:=Ab ((Aa HL1).gb hG2 hBn)
  have HP2:=Ab hP2
  have HG2:=Ab (Bt (Aa HG1) hG2)
  clear hP2 hG2
  go_wp2_with fail
  refine(Pi blk cap k w.heap.size s2 d w2 (Aa HL2) (Aa HP2) hBB (by omega) (by have:=Aa HQ;omega) (by have:=Aa HQ;omega) hsz).mono ?_
  rintro e w3 ⟨k1,s3,rfl,h3,hs3,hP3,hG3⟩
  have HL3:=Ab ((Aa HL2).gb hG3 hBn)
  have HP3:=Ab hP3
  have HG3:=Ab (Bt (Aa HG2) hG3)
  clear hP3 hG3
  go_wp2_with fail
  refine(Vz blk cap i1 j1 k1 w.heap.size s3 d w3 (Aa HL3) (Aa HP3) hBB (by omega) (by have:=Aa HQ;omega) (by have:=Aa HQ;omega) (by have:=Aa HQ;omega) hsz).mono ?_
  rintro e w4 ⟨m,s4,rfl,h4,hs4,hP4,hG4⟩
  obtain⟨p1,p2,p3⟩:=hP4.cell
  have HF:=Ab (Aa HG0 _ (Bt (Aa HG3) hG4))
  have HR:=Ab (show a<=m/\m<b by have:=Aa HQ;omega)
  clear hP4 hG4 h1 h2 h3 h4
  go_wp2
  all_goals
   go_ret2
   first
    |exact⟨m,1,rfl,(Aa HR).1,(Aa HR).2,by omega,Aa HF⟩
    |exact⟨m,2,rfl,(Aa HR).1,(Aa HR).2,by omega,Aa HF⟩
    |exact⟨m,0,rfl,(Aa HR).1,(Aa HR).2,by omega,Aa HF⟩
 ·by_cases h8:8<=l
  ·have y1: ¬(50:Int)<=l:=by omega
   have y2:(8:Int)<=l:=by omega
   go_enter func201,ntmps201
   go_wp2_with fail
   refine(Vz blk cap i j k w.heap.size 0 d _ (Aa HL0) (Aa HP0) hBB (by omega) (by have:=Aa HQ;omega) (by have:=Aa HQ;omega) (by have:=Aa HQ;omega) hsz).mono ?_
   rintro e w4 ⟨m,s4,rfl,h4,hs4,hP4,hG4⟩
   obtain⟨p1,p2,p3⟩:=hP4.cell
   have HF:=Ab (Aa HG0 _ hG4)
   have HR:=Ab (show a<=m/\m<b by have:=Aa HQ;omega)
   clear hP4 hG4 h4
   go_wp2
   all_goals
    go_ret2
    first
     |exact⟨m,1,rfl,(Aa HR).1,(Aa HR).2,by omega,Aa HF⟩
     |exact⟨m,2,rfl,(Aa HR).1,(Aa HR).2,by omega,Aa HF⟩
     |exact⟨m,0,rfl,(Aa HR).1,(Aa HR).2,by omega,Aa HF⟩
  ·have y1: ¬(50:Int)<=l:=by omega
   have y2: ¬(8:Int)<=l:=by omega
   have HF:=Ab (Aa HG0 _ (Jk _ _))
   have HR:=Ab (show a<=j/\j<b by have:=Aa HQ;omega)
   go_enter func201,ntmps201
   go_wp2
   go_ret2
   exact⟨j,1,rfl,(Aa HR).1,(Aa HR).2,by omega,Aa HF⟩
end
section
open Go Go.Proofs Go.RowKit Go.Sort
def Rn (w:World) (B:Nat) (n:Nat):Prop:=w.heap[B]? =some (.cells #[.int .u64 (n:Int)] 205 (0,0))
theorem Rn.cell {w:World} {B n:Nat} (h:Rn w B n):w.cell? ⟨B,0,none⟩=some (.int .u64 (n:Int))/\w.frozen? ⟨B,0,none⟩=false/\B<w.heap.size:=by
 unfold Rn at h
 exact⟨by simp[go_sem,World.cell?,h],by simp[go_sem,World.frozen?,h],(Array.getElem?_eq_some_iff.1 h).1⟩
theorem next80 (B r:Nat) (w:World) (h:Rn w B r) (hr:r<2^64):
  Calls Tryz.prog 123 #[.pointer (some ⟨B,0,none⟩)] w fun e w'=> ∃r':Nat,r'<2^64/\e= .returned (.int .u64 r')/\Rn w' B r'/\w.grownBy w' (some B):=by
 obtain⟨c,f,hl⟩:=h.cell
 obtain⟨s1,hs1⟩: ∃s1,s1=r * 8192 % 18446744073709551616:=⟨_,rfl⟩
 have a1:IntKind.u64.wrap ((r:Int) * 8192)=(s1:Int):=by simp[IntKind.wrap,IntKind.bits,IntKind.signed];omega
 obtain⟨r1,hr1⟩: ∃r1,r1=r^^^s1:=⟨_,rfl⟩
 have l1:r1<2^64:=by rw[hr1];exact Nat.xor_lt_two_pow hr (by omega)
 have b1:bits .xor .u64 (r:Int) (s1:Int)=(r1:Int):=by rw[hr1];exact u64_xor_nat r s1 hr (by omega)
 obtain⟨s2,hs2⟩: ∃s2,s2=r1 / 128:=⟨_,rfl⟩
 have a2:(r1:Int) / 128=(s2:Int):=by omega
 obtain⟨r2,hr2⟩: ∃r2,r2=r1^^^s2:=⟨_,rfl⟩
 have l2:r2<2^64:=by rw[hr2];exact Nat.xor_lt_two_pow l1 (by omega)
 have b2:bits .xor .u64 (r1:Int) (s2:Int)=(r2:Int):=by rw[hr2];exact u64_xor_nat r1 s2 l1 (by omega)
 obtain⟨s3,hs3⟩: ∃s3,s3=r2 * 131072 % 18446744073709551616:=⟨_,rfl⟩
 have a3:IntKind.u64.wrap ((r2:Int) * 131072)=(s3:Int):=by simp[IntKind.wrap,IntKind.bits,IntKind.signed];omega
 obtain⟨r3,hr3⟩: ∃r3,r3=r2^^^s3:=⟨_,rfl⟩
 have l3:r3<2^64:=by rw[hr3];exact Nat.xor_lt_two_pow l2 (by omega)
 have b3:bits .xor .u64 (r2:Int) (s3:Int)=(r3:Int):=by rw[hr3];exact u64_xor_nat r2 s3 l2 (by omega)
 have HL:=Ab (And.intro l3 h)
 clear l1 l2 l3 hr h hs1 hr1 hs2 hr2 hs3 hr3
 go_enter Tryz.func123,Tryz.ntmps123
 go_wp2_with fail
 go_region
 all_goals go_wp2_with fail
 go_region
 all_goals go_wp2_with fail
 go_region
 obtain⟨X,hX⟩: ∃X,X=(((w.setCell ⟨B,0,none⟩ (.int .u64 (r1:Nat))).setCell ⟨B,0,none⟩ (.int .u64 (r2:Nat))).setCell ⟨B,0,none⟩ (.int .u64 (r3:Nat))).drew.drew.drew:=⟨_,rfl⟩
 have hR:Rn X B r3:=by
  have h:=(Aa HL).2
  unfold Rn at *
  rw[hX]
  show ((((w.setCell ⟨B,0,none⟩ (.int .u64 (r1:Nat))).setCell ⟨B,0,none⟩ (.int .u64 (r2:Nat))).setCell ⟨B,0,none⟩ (.int .u64 (r3:Nat)))).heap[B]? =_
  simp[World.setCell,Array.getElem?_modify,h]
 have hG:w.grownBy X (some B):=by
  rw[hX]
  have g0:=Bt (Bt (Rl w B 0 (.int .u64 (r1:Nat))) (Rl _ B 0 (.int .u64 (r2:Nat)))) (Rl _ B 0 (.int .u64 (r3:Nat)))
  exact⟨g0.os,g0.tape,g0.output,g0.size,g0.block⟩
 rw[←hX]
 have HF:=Ab (And.intro hR hG)
 obtain⟨c',f',hl'⟩:=hR.cell
 clear hX hR hG
 go_wp2
 go_ret
 exact⟨r3,(Aa HL).1,rfl,(Aa HF).1,(Aa HF).2⟩
