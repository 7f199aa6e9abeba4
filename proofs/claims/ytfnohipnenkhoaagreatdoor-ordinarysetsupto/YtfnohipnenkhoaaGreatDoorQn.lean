import Derived.Test.YtfnohipnenkhoaaGreatDoorQm
import Derived.RangeFuncKeeps
import Derived.BigFrameIn
set_option linter.all false
namespace Go.Proofs.YtfnohipnenkhoaaGreatDoor
set_option maxRecDepth 100000
set_option maxHeartbeats 0
section
open Go Go.Proofs Go.Maps Go.RowKit
def Rg (b:Nat) (d:DD) (r:RR):RR:=if r.b=b then {r with d:=d} else r
theorem Nn (b:Nat) (d:DD) (r:RR):(Rg b d r).b=r.b/\(Rg b d r).k=r.k/\(Rg b d r).n=r.n/\(Rg b d r).gone=r.gone:=by
 unfold Rg
 split<;>simp
def TT.upd (T:TT) (b:Nat) (d:DD):TT:={T with rows:=T.rows.map (Rg b d)}
theorem TT.upd_live (T:TT) (b:Nat) (d:DD):(T.upd b d).live=T.live.map (Rg b d):=by
 unfold TT.live TT.upd
 simp only[List.filter_map]
 congr 1
 apply List.filter_congr
 intro r _
 simp[(Nn b d r).2.2.2]
theorem TT.upd_find (T:TT) (b:Nat) (d:DD) (k:KK):(T.upd b d).find k=(T.find k).map (Rg b d):=by
 unfold TT.find
 rw[TT.upd_live,List.find?_map]
 congr 1
 congr 1
 funext r
 simp[(Nn b d r).2.1]
theorem TT.upd_bs (T:TT) (b:Nat) (d:DD):(T.upd b d).rows.map (·.b)=T.rows.map (·.b):=by
 unfold TT.upd
 simp only[List.map_map]
 apply List.map_congr_left
 intro r _
 exact(Nn b d r).1
theorem TT.upd_blocks (T:TT) (b:Nat) (d:DD):(T.upd b d).blocks=T.blocks:=by
 unfold TT.blocks
 rw[TT.upd_bs]
 rfl
theorem TT.Is.upd {T:TT} {w X:World} {r:RR} {d:DD} (hT:T.Is w) (hr:r∈T.rows) (hf:Fr w X [r.b]) (hn:Holds X r.b (r.k.cs++(d.cs++ [.int .u64 r.n, .bool r.gone]))):(T.upd r.b d).Is X:=by
 have hnd:=hT.nd
 simp only[TT.blocks,List.nodup_cons,List.mem_cons,List.mem_append,List.nodup_append,not_or] at hnd
 obtain⟨⟨h1,h2,h3⟩,⟨h4,h5⟩,h6,h7,h8⟩:=hnd
 have hm:r.b∈T.rows.map (·.b):=List.mem_map.2 ⟨r,hr,rfl⟩
 have hlt:=hT.lt
 have part: ∀b∈T.blocks,b≠r.b->X.heap[b]? =w.heap[b]? :=fun b hb hne=>hf.block b (hlt b hb) (by simpa using hne)
 refine⟨?_, ?_, ?_, ?_, ?_, ?_, ?_, ?_, ?_⟩
 ·exact hT.tab.block (part _ (by simp[TT.blocks]) (fun e=>h3 (e▸hm)))
 ·have e:(fun k=>((T.upd r.b d).find k).map (·.b))=fun k=>(T.find k).map (·.b):=by
   funext k
   rw[TT.upd_find]
   cases T.find k with
   |none=>rfl
   |some q=>simp[(Nn r.b d q).1]
  rw[e,TT.upd_live,List.length_map]
  exact hT.map.block (part _ (by simp[TT.blocks]) (fun e=>h5 (by rw[show T.m=r.b from e];exact hm)))
 ·rw[TT.upd_bs]
  exact hT.own.block (fun g hg=>part _ (TT.Part.mem (.inr (.inl hg))) (fun e=>h8 g (by rw[hg];simp) r.b hm e))
 ·intro q hq
  obtain⟨p,hp,rfl⟩:=List.mem_map.1 (show q∈T.rows.map (Rg r.b d) from hq)
  by_cases e:p.b=r.b
  ·have hpr:p=r:=by
    have:=hT.rise
    rcases List.getElem?_of_mem hp with ⟨i,hi⟩
    rcases List.getElem?_of_mem hr with ⟨j,hj⟩
    have e1:(T.rows.map (·.b))[i]? =some r.b:=by simp[hi,e]
    have e2:(T.rows.map (·.b))[j]? =some r.b:=by simp[hj]
    have hij:=(List.getElem?_inj (by simpa using (List.getElem?_eq_some_iff.1 hi).1) h7).1 (e1.trans e2.symm)
    subst hij
    rw[hi] at hj
    exact Option.some.inj hj
   subst hpr
   unfold Rg
   rw[if_pos rfl]
   exact hn
  ·unfold Rg
   rw[if_neg e]
   exact(hT.rows p hp).block (part _ (TT.Part.mem (.inr (.inr (List.mem_map.2 ⟨p,hp,rfl⟩)))) e)
 ·rw[TT.upd_blocks]
  exact hT.nd
 ·show (T.rows.map (Rg r.b d)).Pairwise _
  rw[List.pairwise_map]
  exact hT.rise.imp (fun {a b} h=>by rw[(Nn r.b d a).2.2.1,(Nn r.b d b).2.2.1];exact h)
 ·intro q hq
  obtain⟨p,hp,rfl⟩:=List.mem_map.1 (show q∈T.rows.map (Rg r.b d) from hq)
  rw[(Nn r.b d p).2.2.1]
  exact hT.num p hp
 ·rw[TT.upd_live,List.pairwise_map]
  exact hT.keys.imp (fun {a b} h=>by rw[(Nn r.b d a).2.1,(Nn r.b d b).2.1];exact h)
 ·rw[TT.upd_live]
  intro q hq
  obtain⟨p,hp,rfl⟩:=List.mem_map.1 hq
  rw[(Nn r.b d p).2.1]
  exact hT.good p hp
end
section
open Go Go.Proofs Go.Maps Go.RowKit Tryz
theorem isNaN82 (x:Nat) (w:World):Calls prog 126 #[.int .u64 x] w fun e w'=>e= .returned (.bool false)/\w'=w:=by
 go_enter func126,ntmps126
 go_wp2
 go_ret
 simp
theorem cmp71 (x y:Nat) (w:World):Calls prog 119 #[.int .u64 x, .int .u64 y] w fun e w'=>e= .returned (.int .i64 (if x<y then -1 else if y<x then 1 else 0))/\w'=w:=by
 have H1:=Ab (fun z:Nat=>isNaN82 z w)
 by_cases h1:x<y
 ·rw[if_pos h1]
  have h1':(x:Int)<(y:Int):=by omega
  go_enter func119,ntmps119
  go_wp2_with fail
  refine((Aa H1) x).mono ?_
  rintro _ _ ⟨rfl,rfl⟩
  go_wp2_with fail
  refine((Aa H1) y).mono ?_
  rintro _ _ ⟨rfl,rfl⟩
  go_wp2
  go_ret
  exact⟨rfl,rfl⟩
 ·rw[if_neg h1]
  have h1': ¬(x:Int)<(y:Int):=by omega
  by_cases h2:y<x
  ·rw[if_pos h2]
   have h2':(y:Int)<(x:Int):=by omega
   go_enter func119,ntmps119
   go_wp2_with fail
   refine((Aa H1) x).mono ?_
   rintro _ _ ⟨rfl,rfl⟩
   go_wp2_with fail
   refine((Aa H1) y).mono ?_
   rintro _ _ ⟨rfl,rfl⟩
   go_wp2
   go_ret
   exact⟨rfl,rfl⟩
  ·rw[if_neg h2]
   have h2': ¬(y:Int)<(x:Int):=by omega
   go_enter func119,ntmps119
   go_wp2_with fail
   refine((Aa H1) x).mono ?_
   rintro _ _ ⟨rfl,rfl⟩
   go_wp2_with fail
   refine((Aa H1) y).mono ?_
   rintro _ _ ⟨rfl,rfl⟩
   go_wp2
   go_ret
   exact⟨rfl,rfl⟩
def cu (x y:Nat):Int:=if x<y then -1 else if y<x then 1 else 0
theorem ZaC (r:RR) (y:Nat) (w:World) (h:Holds w r.b r.cs):Calls prog 108 #[.pointer (some ⟨r.b,0,none⟩), .int .u64 y] w fun e w'=>e= .returned (.int .i64 (cu r.n y))/\w'=w:=by
 have H1:Hid (Calls prog 119 #[.int .u64 r.n, .int .u64 y] w fun e w'=>e= .returned (.int .i64 (cu r.n y))/\w'=w):=Ab (cmp71 r.n y w)
 generalize cu r.n y=c at *
 have HR:=Ab h
 clear h
 go_enter func108,ntmps108
 go_wp2_with (first|go_skip|(refine rd rfl (Ad 87 isAgg87 rfl rfl (Aa HR) rfl) ?_))
 refine(Aa H1).mono ?_
 rintro _ _ ⟨rfl,rfl⟩
 go_wp2
 go_ret
 exact⟨rfl,rfl⟩
theorem Jz {o:Oper} {a:Act} {W:World} {x:Operand} {B p:Nat} {v:Value} (t:TypeId) (hna: ∀w,(isAgg t).run prog w= .ok false w) (ho:o.op= .load t x) (hx:a.eval x= .pointer (some ⟨B,p,none⟩)) (h0:W.cell? ⟨B,p,none⟩=some v):(execOp a.eval o).run prog W= .ok (.value v) W:=by
 unfold execOp
 simp only[ho,hx]
 simp[go_sem,h0,hna]
theorem index70 (g off n cap j:Nat) (hj:j<n) (w:World):(Instr.indexAt 143 (.slice (some ⟨g,off,none⟩) n cap) (.int .i64 j)).run prog w= .ok (.pointer (some ⟨g,off+j,none⟩)) w:=by
 rw[run_indexAt_slice (h:=by kernel_rfl),if_pos ⟨by omega,by omega⟩]
 have e:(sizeOf (prog.elem 143)).run prog w= .ok 1 w:=by kernel_rfl
 rw[e]
 have e2:(Addr.add ⟨g,off,none⟩ ((j:Int).toNat * 1))=⟨g,off+j,none⟩:=by
  rw[Addr.add_mid]
  simp
 show Result.ok (Value.pointer (some (Addr.add ⟨g,off,none⟩ ((j:Int).toNat * 1)))) w=_
 rw[e2]
theorem Rq {o:Oper} {a:Act} {w:World} {x ix:Operand} {g off n cap:Nat} (j:Nat) (ho:o.op= .indexAddr 143 x ix) (hx:a.eval x= .slice (some ⟨g,off,none⟩) n cap) (hix:a.eval ix= .int .i64 j) (hj:j<n):(execOp a.eval o).run prog w= .ok (.value (.pointer (some ⟨g,off+j,none⟩))) w:=by
 unfold execOp
 simp only[ho,hx,hix]
 have:=index70 g off n cap j hj w
 simp[this]
theorem OwnP.cell {W:World} {g cap n:Nat} {l:List Nat} (h:OwnP W (.slice (some ⟨g,0,none⟩) n cap) l) (j:Nat) (hj:j<l.length):W.cell? ⟨g,j,none⟩=some (.pointer (some ⟨l[j],0,none⟩)):=by
 rcases h.2 with ⟨h1, -⟩|⟨g',cap',cur,h1,h2,h3,h4,h5,h6,h7⟩
 ·cases h1
 ·cases h1
  have e:cur.toList[j]? =some (.pointer (some ⟨l[j],0,none⟩)):=by
   have h8:(cur.toList.take (l.length * 1))[j]? =(Pu l)[j]? :=by rw[h7]
   rw[List.getElem?_take,if_pos (by omega)] at h8
   rw[h8]
   simp[Pu,hj]
  have e2:cur[j]? =some (.pointer (some ⟨l[j],0,none⟩)):=by simpa using e
  simp[World.cell?,h3,e2]
theorem bs_rows (g cap y:Nat) (l:List RR) (w:World) (ho:OwnP w (.slice (some ⟨g,0,none⟩) l.length cap) (l.map (·.b))) (hr: ∀r∈l,Holds w r.b r.cs) (hs:l.Pairwise (fun a b=>a.n<b.n)) (hl:l.length<=4000000):
  Calls prog 107 #[.slice (some ⟨g,0,none⟩) l.length cap, .int .u64 y, .func (.func 108) #[] #[]] w fun e w'=> ∃(p:Nat) (f:Value),e= .returned (.tuple #[.int .i64 p,f])/\p<=l.length/\(∀t (h:t<l.length),t<p->l[t].n<y)/\(∀t (h:t<l.length),p<=t->y<=l[t].n)/\w'=w:=by
 have HO:=Ab ho
 have HR:=Ab hr
 have HS:=Ab hs
 clear ho hr hs
 go_enter func107,ntmps107
 go_wp2_with fail
 go_loopg [9,10,11] l.length (fun gm s9 s10 s11 wr=> ∃i j:Nat,s9= .int .i64 i/\s10= .int .i64 j/\i<=j/\j<=l.length/\j - i<=gm/\Hid ((∀t (h:t<l.length),t<i->l[t].n<y)/\(∀t (h:t<l.length),j<=t->y<=l[t].n))/\wr=w)
 case atStart=>exact⟨0,l.length,rfl,rfl,by omega,by omega,by omega,Ab ⟨fun t h h2=>by omega,fun t h h2=>by omega⟩,rfl⟩
 case round=>
  obtain⟨i,j,rfl,rfl,hij,hjl,hg,H3,rfl⟩:=hrel
  by_cases hlt:i<j
  ·have hlz:(i:Int)<j:=by omega
   have hm:(i+j) / 2<l.length:=by omega
   obtain⟨r,hr⟩: ∃r,r=l[(i+j) / 2]:=⟨_,rfl⟩
   have HC:Hid (wr.cell? ⟨g,(i+j) / 2,none⟩=some (.pointer (some ⟨r.b,0,none⟩))):=Ab (by
    have:=(Aa HO).cell ((i+j) / 2) (by simpa using hm)
    rw[this,hr];simp)
   have HB:=Ab (ZaC r y wr (Aa HR r (by rw[hr];exact List.getElem_mem hm)))
   by_cases hc:r.n<y
   ·have ec:cu r.n y= -1:=by unfold cu;rw[if_pos hc]
    rw[ec] at HB
    have HQ:Hid ((∀t (h:t<l.length),t<(i+j) / 2+1->l[t].n<y)/\(∀t (h:t<l.length),j<=t->y<=l[t].n)):=Ab ⟨fun t h h2=>(by
     rcases Nat.lt_or_ge t ((i+j) / 2) with h3|h3
     ·have h4:=(List.pairwise_iff_getElem.1 (Aa HS)) t ((i+j) / 2) h hm h3
      rw[←hr] at h4
      omega
     ·have h4:t=(i+j) / 2:=by omega
      subst h4
      rw[←hr];exact hc),(Aa H3).2⟩
    clear hr hc ec H3
    go_wp2_with (first|go_skip|(refine rd rfl (Jz 156 isAgg156 rfl rfl (Aa HC)) ?_))
    refine(Aa HB).mono ?_
    rintro _ _ ⟨rfl,rfl⟩
    go_wp2
    go_roundg (j - ((i+j) / 2+1))
    case measure=>omega
    case rel=>exact⟨(i+j) / 2+1,j,by first|rfl|(congr 1;omega),rfl,by omega,hjl,by omega,HQ,rfl⟩
   ·have ec: ¬cu r.n y<0:=by unfold cu;rw[if_neg hc];split<;>omega
    generalize cu r.n y=c at *
    have HQ:Hid ((∀t (h:t<l.length),t<i->l[t].n<y)/\(∀t (h:t<l.length),(i+j) / 2<=t->y<=l[t].n)):=Ab ⟨(Aa H3).1,fun t h h2=>(by
     rcases Nat.lt_or_ge ((i+j) / 2) t with h3|h3
     ·have h4:=(List.pairwise_iff_getElem.1 (Aa HS)) ((i+j) / 2) t hm h h3
      rw[←hr] at h4
      omega
     ·have h4:t=(i+j) / 2:=by omega
      subst h4
      rw[←hr];omega)⟩
    clear hr hc H3
    go_wp2_with (first|go_skip|(refine rd rfl (Jz 156 isAgg156 rfl rfl (Aa HC)) ?_))
    refine(Aa HB).mono ?_
    rintro _ _ ⟨rfl,rfl⟩
    go_wp2
    go_roundg ((i+j) / 2 - i)
    case measure=>omega
    case rel=>exact⟨i,(i+j) / 2,rfl,by first|rfl|(congr 1;omega),by omega,by omega,by omega,HQ,rfl⟩
  ·have hlz: ¬(i:Int)<j:=by omega
   have hij2:i=j:=by omega
   subst hij2
   by_cases he:i<l.length
   ·have hez:(i:Int)<l.length:=by omega
    obtain⟨r,hr⟩: ∃r,r=l[i]:=⟨_,rfl⟩
    have HC:Hid (wr.cell? ⟨g,i,none⟩=some (.pointer (some ⟨r.b,0,none⟩))):=Ab (by
     have:=(Aa HO).cell i (by simpa using he)
     rw[this,hr];simp)
    have HB:=Ab (ZaC r y wr (Aa HR r (by rw[hr];exact List.getElem_mem he)))
    generalize cu r.n y=c at *
    clear hr
    go_wp2_with (first|go_skip|(refine rd rfl (Jz 156 isAgg156 rfl rfl (Aa HC)) ?_))
    refine(Aa HB).mono ?_
    rintro _ _ ⟨rfl,rfl⟩
    go_wp2
    go_ret2
    exact⟨i,_,rfl,hjl,(Aa H3).1,(Aa H3).2,rfl⟩
   ·have hez: ¬(i:Int)<l.length:=by omega
    go_wp2
    go_ret2
    exact⟨i,⟨_,rfl⟩,hjl,(Aa H3).1,(Aa H3).2,rfl⟩
theorem bs_nil (y:Nat) (A:Option Addr) (cap:Nat) (w:World):
  Calls prog 107 #[.slice A 0 cap, .int .u64 y, .func (.func 108) #[] #[]] w fun e w'=> ∃(p:Nat) (f:Value),e= .returned (.tuple #[.int .i64 p,f])/\p=0/\w'=w:=by
 go_enter func107,ntmps107
 go_wp2_with fail
 go_loopg [9,10,11] 0 (fun gm s9 s10 s11 wr=>s9= .int .i64 0/\s10= .int .i64 0/\wr=w)
 case atStart=>exact⟨rfl,rfl,rfl⟩
 case round=>
  obtain⟨rfl,rfl,rfl⟩:=hrel
  go_wp2
  go_ret2
  exact⟨0,_,rfl,rfl,rfl⟩
theorem find_at {l:List RR} {P:RR->Bool} {j:Nat} (hj:j<l.length) (h:P l[j]=true) (hb: ∀t (ht:t<l.length),t<j->P l[t]=false):l.find? P=some l[j]:=by
 rw[List.find?_eq_some_iff_getElem]
 exact⟨h,j,hj,rfl,fun t ht=>by rw[hb t (by omega) ht];rfl⟩
theorem find_none {l:List RR} {P:RR->Bool} (hb: ∀t (ht:t<l.length),P l[t]=false):l.find? P=none:=by
 rw[List.find?_eq_none]
 intro x hx
 obtain⟨t,ht,rfl⟩:=List.getElem_of_mem hx
 rw[hb t ht]
 simp
def Gk (n:Nat) (r:RR):Bool:=decide (n<r.n) && !r.gone
def TT.next (T:TT) (n:Nat):Option RR:=T.rows.find? (Gk n)
theorem slice70 (g n cap p:Nat) (hp:p<=n) (hn:n<=cap) (w:World): ∃off,(n - p≠0->off=p)/\(Instr.sliceAt 143 (.slice (some ⟨g,0,none⟩) n cap) (some (.int .i64 (p:Nat))) none none).run prog w= .ok (.slice (some ⟨g,off,none⟩) (n - p) (cap - p)) w:=by
 refine⟨if cap=p then 0 else p,fun h=>by rw[if_neg (by omega)], ?_⟩
 rw[run_sliceAt_slice (h:=by kernel_rfl),run_slice_l (ht:=by kernel_rfl) (h0:=by omega) (h1:=by omega)]
 have e:(sizeOf (prog.elem 143)).run prog w= .ok 1 w:=by kernel_rfl
 rw[e]
 by_cases h0:p=0
 ·subst h0
  simp[sliced,Addr.add,Result.andThen]
 ·by_cases h1:cap=p
  ·simp[sliced,Addr.add,Result.andThen,h0,h1]
  ·simp[sliced,Addr.add,Result.andThen,h0,h1]
theorem Zcc (w:World):(Instr.sliceAt 143 (.slice none 0 0) (some (.int .i64 (0:Nat))) none none).run prog w= .ok (.slice none 0 0) w:=by kernel_rfl
theorem Zaq {o:Oper} {a:Act} {w:World} {x ix:Operand} {v u:Value} {p:Nat} (ho:o.op= .slice 143 x (some ix) none none) (hx:a.eval x=v) (hix:a.eval ix= .int .i64 (p:Nat)) (h:(Instr.sliceAt 143 v (some (.int .i64 (p:Nat))) none none).run prog w= .ok u w):(execOp a.eval o).run prog w= .ok (.value u) w:=by
 unfold execOp
 simp only[ho,hx]
 simp[hix,h]
theorem ZeS (T:TT) (n g cap:Nat) (w:World) (hT:T.Is w) (hl:T.last<=4000000) (hn:n<4000000) (hv:T.rv= .slice (some ⟨g,0,none⟩) T.rows.length cap) (hcap:T.rows.length<=cap):Calls prog 81 #[.pointer (some ⟨T.t,0,none⟩), .int .u64 n] w fun e w'=>e= .returned (pv ((T.next n).map (·.b)))/\w'=w:=by
 have hlen:=hT.len
 have HO:Hid (OwnP w (.slice (some ⟨g,0,none⟩) T.rows.length cap) (T.rows.map (·.b))):=Ab (hv▸hT.own)
 have HB:=Ab (bs_rows g cap (n+1) T.rows w (Aa HO) hT.rows hT.rise (by omega))
 have HS:=Ab (fun p hp=>slice70 g T.rows.length cap p hp hcap w)
 have hlen2:=Ab hlen
 have HT:=Ab hT
 have hl2:=Ab hl
 have hn2:=Ab hn
 have HV:Hid (Holds w T.t [.map (some T.m), .slice (some ⟨g,0,none⟩) T.rows.length cap, .int .u64 T.last]):=Ab (by have:=hT.tab;unfold TT.cs at this;rw[hv] at this;exact this)
 have HX:Hid (∀j,(hj:j<T.rows.length)->w.cell? ⟨g,j,none⟩=some (.pointer (some ⟨T.rows[j].b,0,none⟩))/\Holds w T.rows[j].b T.rows[j].cs):=Ab (fun j hj=>⟨by
  have:=(Aa HO).cell j (by simpa using hj)
  rw[this];simp,hT.rows _ (List.getElem_mem hj)⟩)
 unfold TT.next
 obtain⟨l,hle⟩: ∃l,l=T.rows:=⟨_,rfl⟩
 rw[←hle] at HB HS hlen2 HV HX HO ⊢
 clear hle hv hcap hT hlen hl hn HO
 go_enter func81,ntmps81
 go_wp2_with (first|go_skip|(refine rd rfl (Ad 143 isAgg143 rfl rfl (Aa HV) rfl) ?_)|(refine rd rfl (ZbV rfl rfl rfl (Aa hn2)) ?_))
 refine(Aa HB).mono ?_
 rintro _ w1 ⟨p,f,rfl,hp,h1,h2,rfl⟩
 obtain⟨off,ho,hs⟩:=(Aa HS) p hp
 have HX:=HX
 have H1:=Ab h1
 have H2:=Ab h2
 have HSl:=Ab hs
 have Ho:=Ab ho
 clear h1 h2 hs HS ho HB
 go_wp2_with (first|go_skip|(refine rd rfl (Ad 143 isAgg143 rfl rfl (Aa HV) rfl) ?_)|(refine rd rfl (Zaq rfl rfl rfl (Aa HSl)) ?_))
 go_loopg [26,8] l.length (fun gm s26 s8 wr=> ∃i:Nat,s26= .int .i64 i/\i<=l.length - p/\l.length - p - i<=gm/\Hid (∀t (h:t<l.length),p<=t->t<p+i->l[t].gone=true)/\wr=w1)
 case atStart=>exact⟨0,rfl,by omega,by omega,Ab (fun t h h2 h3=>by omega),rfl⟩
 case round=>
  obtain⟨i,rfl,hi,hg,H3,rfl⟩:=hrel
  have hL:l.length<=4000000:=by have a:=Aa hlen2;have b:=Aa hl2;omega
  have hiz:i<=4000000:=by omega
  by_cases hlt:i<l.length - p
  ·have hlz:(i:Int)<((l.length - p:Nat):Int):=by omega
   have hm:p+i<l.length:=by omega
   obtain⟨r,hr⟩: ∃r,r=l[p+i]:=⟨_,rfl⟩
   obtain⟨hc1,hc2⟩:=(Aa HX) (p+i) hm
   rw[←hr] at hc1 hc2
   have HC:Hid (wr.cell? ⟨g,off+i,none⟩=some (.pointer (some ⟨r.b,0,none⟩))):=Ab (by rw[(Aa Ho) (by omega)];exact hc1)
   have HR:=Ab hc2
   clear hc1 hc2
   cases hgn:r.gone with
   |true=>
    have HR2:Hid (Holds wr r.b (r.k.cs++(r.d.cs++ [.int .u64 r.n, .bool true]))):=Ab (hgn▸Aa HR)
    have HQ:Hid (∀t (h:t<l.length),p<=t->t<p+(i+1)->l[t].gone=true):=Ab (fun t h h2 h3=>by
     rcases Nat.lt_or_ge t (p+i) with h4|h4
     ·exact(Aa H3) t h h2 h4
     ·have h5:t=p+i:=by omega
      subst h5
      rw[←hr];exact hgn)
    clear hr hgn H3 HR
    go_wp2_with (first|go_skip|(refine rd rfl (Jz 156 isAgg156 rfl rfl (Aa HC)) ?_)|(refine rd rfl (Ad 4 isAgg4 rfl rfl (Aa HR2) rfl) ?_))
    go_roundg (l.length - p - (i+1))
    case measure=>omega
    case rel=>exact⟨i+1,by go_num,hlt,Nat.le_refl _,HQ,rfl⟩
   |false=>
    have HR2:Hid (Holds wr r.b (r.k.cs++(r.d.cs++ [.int .u64 r.n, .bool false]))):=Ab (hgn▸Aa HR)
    have hfnd:l.find? (Gk n)=some r:=by
     rw[hr]
     refine find_at hm ?_ (fun t ht h4=> ?_)
     ·have:=(Aa H2) (p+i) hm (by omega)
      rw[←hr] at this ⊢
      simp[Gk,hgn];omega
     ·rcases Nat.lt_or_ge t p with h5|h5
      ·have:=(Aa H1) t ht h5
       simp[Gk];omega
      ·have:=(Aa H3) t ht h5 h4
       simp[Gk,this]
    have HF:=Ab hfnd
    clear hr hgn H3 HR hfnd
    go_wp2_with (first|go_skip|(refine rd rfl (Jz 156 isAgg156 rfl rfl (Aa HC)) ?_)|(refine rd rfl (Ad 4 isAgg4 rfl rfl (Aa HR2) rfl) ?_))
    go_ret
    refine⟨?_,rfl⟩
    rw[Aa HF]
    rfl
  ·have hlz: ¬(i:Int)<((l.length - p:Nat):Int):=by omega
   have hfnd:l.find? (Gk n)=none:=by
    refine find_none (fun t ht=> ?_)
    rcases Nat.lt_or_ge t p with h5|h5
    ·have:=(Aa H1) t ht h5
     simp[Gk];omega
    ·have:=(Aa H3) t ht h5 (by omega)
     simp[Gk,this]
   have HF:=Ab hfnd
   clear hfnd
   go_wp2
   go_ret
   refine⟨?_,rfl⟩
   rw[Aa HF]
   rfl
theorem Zx (T:TT) (n:Nat) (w:World) (hT:T.Is w) (hl:T.last<=4000000) (hn:n<4000000):Calls prog 81 #[.pointer (some ⟨T.t,0,none⟩), .int .u64 n] w fun e w'=>e= .returned (pv ((T.next n).map (·.b)))/\w'=w:=by
 rcases hT.own.2 with ⟨h1,h2⟩|⟨g,cap,cur,h1,h2,h3,h4,h5⟩
 ·have hr:T.rows= []:=by simpa using h2
  have HV:Hid (Holds w T.t [.map (some T.m), .slice none 0 0, .int .u64 T.last]):=Ab (by have:=hT.tab;unfold TT.cs at this;rw[h1] at this;exact this)
  have HB:=Ab (bs_nil (n+1) none 0 w)
  have HS:=Ab (Zcc w)
  have hn2:=Ab hn
  have HE:Hid (T.next n=none):=Ab (by unfold TT.next;rw[hr];rfl)
  clear hT hl hn h1 h2 hr
  go_enter func81,ntmps81
  go_wp2_with (first|go_skip|(refine rd rfl (Ad 143 isAgg143 rfl rfl (Aa HV) rfl) ?_)|(refine rd rfl (ZbV rfl rfl rfl (Aa hn2)) ?_))
  refine(Aa HB).mono ?_
  rintro _ w1 ⟨p,f,rfl,rfl,rfl⟩
  go_wp2_with (first|go_skip|(refine rd rfl (Ad 143 isAgg143 rfl rfl (Aa HV) rfl) ?_)|(refine rd rfl (Zaq rfl rfl rfl (Aa HS)) ?_))
  go_loopg [26,8] 0 (fun gm s26 s8 wr=>s26= .int .i64 0/\wr=w1)
  case atStart=>exact⟨rfl,rfl⟩
  case round=>
   obtain⟨rfl,rfl⟩:=hrel
   go_wp2
   go_ret
   refine⟨?_,rfl⟩
   rw[Aa HE]
   rfl
 ·have e:T.rv= .slice (some ⟨g,0,none⟩) T.rows.length cap:=by rw[h1];simp
  exact ZeS T n g cap w hT hl hn e (by simpa using h4)
theorem Vu (m:Nat) (r:RR): ∀(l:List RR),l.Pairwise (fun a b=>a.n<b.n)->l.find? (Gk m)=some r->l.filter (Gk m)=r::l.filter (Gk r.n)
 | [],_,h=>by cases h
 |q::t,hp,h=>by
  obtain⟨h1,h2⟩:=List.pairwise_cons.1 hp
  by_cases hq:Gk m q=true
  ·rw[List.find?_cons_of_pos hq] at h
   obtain rfl:=Option.some.inj h
   have e0:Gk q.n q=false:=by simp[Gk]
   rw[List.filter_cons_of_pos hq,List.filter_cons_of_neg (by simp[e0])]
   congr 1
   apply List.filter_congr
   intro x hx
   have h3:=h1 x hx
   have h4:m<q.n:=by
    unfold Gk at hq
    simp at hq
    exact hq.1
   simp only[Gk]
   rw[decide_eq_true (by omega:m<x.n),decide_eq_true h3]
  ·rw[List.find?_cons_of_neg hq] at h
   have hr:r∈t:=List.mem_of_find?_eq_some h
   have h3:=h1 r hr
   rw[List.filter_cons_of_neg hq,Vu m r t h2 h,List.filter_cons_of_neg (by simp[Gk];omega)]
theorem ZcG (m:Nat) (l:List RR) (h:l.find? (Gk m)=none):l.filter (Gk m)= []:=by
 rw[List.filter_eq_nil_iff]
 exact List.find?_eq_none.1 h
theorem ZeZ {T:TT} {W:World} (hT:T.Is W):T.rows.filter (Gk 0)=T.live:=by
 unfold TT.live
 apply List.filter_congr
 intro r hr
 have:=(hT.num r hr).1
 simp only[Gk]
 rw[decide_eq_true (by omega:0<r.n)]
 simp
theorem Zcu {T:TT} {m:Nat} {r:RR} (h:T.next m=some r):r∈T.rows/\m<r.n/\r.gone=false:=by
 have h1:=List.mem_of_find?_eq_some h
 have h2:=List.find?_some h
 simp[Gk] at h2
 exact⟨h1,h2⟩
def RR.pr (r:RR):KK×DD:=(r.k,r.d)
def encP (x:KK×DD):Array Value:= #[x.1.agg,x.2.agg]
def left (T:TT):Value->Nat
 | .pointer (some a)=>(match T.rows.find? (fun r=>r.b==a.block) with
  |some r=>(T.rows.filter (Gk r.n)).length+1
  |none=>0)
 |_=>0
theorem each41 (T:TT) (w:World):Calls prog 59 #[.pointer (some ⟨T.t,0,none⟩)] w fun e w'=>e= .returned (.func (.func 80) #[] #[.pointer (some ⟨w.heap.size,0,none⟩)])/\w'=w.alloc (Obj.cells #[.pointer (some ⟨T.t,0,none⟩)] 97):=by
 go_enter func59,ntmps59
 go_wp2
 go_ret
 exact⟨rfl,rfl⟩
section -- laws in the fence
variable {n : Nat} {md : Region.Mode} {ops : Array Oper} {Q : Exit → Act → World → Prop} {w : World} {fuel : Nat} {listed : Array Bool} {a : Act} {o : Oper}
theorem ip (i:Nat) (dst:Option Tmp) (v:Value) (hi:ops[i]? =some o) (hs:Region.noSelect ops=true) (hf:Region.free md ops listed i=true) (hr:(Region.ready md ops listed).contains i=true)
  (hQ: ∀c a w,Q (.panic c) (a.put dst v) w->Q (.panic c) a w) (hd:o.dst=dst) (hw:Region.wanted o (yielded ops a.tmps)=true) (hy: ∀w,(execOp a.eval o).run prog w= .ok (.value v) w) (hab: ∀w,o.about prog w a.eval=none)
  (h:wpAnyIn Fence.wide n prog md ops Q fuel (listed.setIfInBounds i true) (a.put dst v) w):wpAnyIn Fence.wide n prog md ops Q (fuel+1) listed a w:=by
 subst hd
 exact wpAnyIn_take rfl hi hs hf hr hQ ⟨Or.inl ⟨hw,hy⟩,hab⟩ h
theorem isk (i:Nat) (dst:Option Tmp) (hi:ops[i]? =some o) (hs:Region.noSelect ops=true) (hf:Region.free md ops listed i=true) (hr:(Region.ready md ops listed).contains i=true)
  (hQ: ∀c a w,Q (.panic c) (a.put dst undef) w->Q (.panic c) a w) (hd:o.dst=dst) (hw:Region.wanted o (yielded ops a.tmps)=false) (hab: ∀w,o.about prog w a.eval=none)
  (h:wpAnyIn Fence.wide n prog md ops Q fuel (listed.setIfInBounds i true) (a.put dst undef) w):wpAnyIn Fence.wide n prog md ops Q (fuel+1) listed a w:=by
 subst hd
 exact wpAnyIn_take rfl hi hs hf hr hQ ⟨Or.inr ⟨hw,rfl⟩,hab⟩ h
theorem Yo (i:Nat) (dst:Option Tmp) {V:Value} {rs:List Nat} (hi:ops[i]? =some o) (hd:o.dst=dst) (hw:Region.wanted o (yielded ops a.tmps)=true) (he:(execOp a.eval o).run prog w= .ok (.value V) w)
  (h:wpAnyIn Fence.wide n prog md ops Q fuel (listed.setIfInBounds i true) (a.put dst V) w) (hs:AllReadyIn Fence.wide n prog md ops Q fuel listed a w rs):AllReadyIn Fence.wide n prog md ops Q fuel listed a w (i::rs):=by
 subst hd
 refine AllReadyIn.cons hi (fun K hK=> ?_) hs
 rw[if_pos hw]
 refine⟨fun _ _=>trivial, ?_⟩
 show o.uponIn Fence.wide n prog a K Q ((execOp a.eval o).run prog w)
 rw[he]
 exact hK _ _ h
theorem Zee (i:Nat) (dst:Option Tmp) {f:FuncId} {args:Array Value} {R:Ending->World->Prop} {rs:List Nat} (hi:ops[i]? =some o) (hd:o.dst=dst) (hw:Region.wanted o (yielded ops a.tmps)=true) (he:(execOp a.eval o).run prog w= .ok (.enter f args) w)
  (hC:Calls prog f args w R) (h: ∀e X,R e X-> ∃V,e= .returned V/\wpAnyIn Fence.wide n prog md ops Q fuel (listed.setIfInBounds i true) (a.put dst V) X) (hs:AllReadyIn Fence.wide n prog md ops Q fuel listed a w rs):AllReadyIn Fence.wide n prog md ops Q fuel listed a w (i::rs):=by
 subst hd
 refine AllReadyIn.cons hi (fun K hK=> ?_) hs
 rw[if_pos hw]
 refine⟨fun _ _=>trivial, ?_⟩
 show o.uponIn Fence.wide n prog a K Q ((execOp a.eval o).run prog w)
 rw[he,Oper.uponIn_enter]
 refine⟨(fun h=>by cases h),(callsIn_wide.2 hC).mono ?_⟩
 intro e X hR
 obtain⟨V,rfl,hV⟩:=h e X hR
 exact hK _ _ hV
theorem iround (i:Nat) (dst:Option Tmp) {l:Nat} {f:FuncId} {tmps:Array Value} {asg bd:Code} {R:Ending->World->Prop} {rs:List Nat} (hi:ops[i]? =some o) (hd:o.dst=dst) (hw:Region.wanted o (yielded ops a.tmps)=true) (he:(execOp a.eval o).run prog w= .ok (.round l f tmps asg bd) w)
  (hC:RoundIn Fence.wide (n - 1) prog l f tmps asg bd w R) (h: ∀e X,R e X-> ∃V,e= .returned V/\wpAnyIn Fence.wide n prog md ops Q fuel (listed.setIfInBounds i true) (a.put dst V) X) (hs:AllReadyIn Fence.wide n prog md ops Q fuel listed a w rs):AllReadyIn Fence.wide n prog md ops Q fuel listed a w (i::rs):=by
 subst hd
 refine AllReadyIn.cons hi (fun K hK=> ?_) hs
 rw[if_pos hw]
 refine⟨fun _ _=>trivial, ?_⟩
 show o.uponIn Fence.wide n prog a K Q ((execOp a.eval o).run prog w)
 rw[he,Oper.uponIn_round]
 refine⟨(fun h=>by cases h),hC.mono ?_⟩
 intro e X hR
 obtain⟨V,rfl,hV⟩:=h e X hR
 exact hK _ _ hV
end
def Kb (n₀ Bn:Nat) (W W':World):Prop:=Below n₀ W W'/\W'.heap[Bn]? =W.heap[Bn]?
theorem Pz {T:TT} {W:World} (hT:T.Is W) {r:RR} (hr:r∈T.rows):left T (.pointer (some ⟨r.b,0,none⟩))=(T.rows.filter (Gk r.n)).length+1:=by
 have hnd:=hT.nd
 simp only[TT.blocks,List.nodup_cons,List.mem_cons,List.mem_append,List.nodup_append,not_or] at hnd
 obtain⟨-, -, -,h7, -⟩:=hnd
 have e:T.rows.find? (fun q=>q.b==r.b)=some r:=by
  cases h:T.rows.find? (fun q=>q.b==r.b) with
  |none=>
   have:=List.find?_eq_none.1 h r hr
   simp at this
  |some q=>
   have h1:=List.mem_of_find?_eq_some h
   have h2:=List.find?_some h
   have e2:q.b=r.b:=by simpa using h2
   rcases List.getElem?_of_mem h1 with ⟨i,hi⟩
   rcases List.getElem?_of_mem hr with ⟨j,hj⟩
   have e3:(T.rows.map (·.b))[i]? =some r.b:=by simp[hi,e2]
   have e4:(T.rows.map (·.b))[j]? =some r.b:=by simp[hj]
   have hij:=(List.getElem?_inj (by simpa using (List.getElem?_eq_some_iff.1 hi).1) h7).1 (e3.trans e4.symm)
   subst hij
   rw[hi] at hj
   exact hj
 simp only[left,e]
theorem Qs {T:TT} {W:World} (hT:T.Is W) {m:Nat}:left T (pv ((T.next m).map (·.b)))=(T.rows.filter (Gk m)).length:=by
 cases h:T.next m with
 |none=>rw[ZcG m _ h];rfl
 |some r=>
  rw[Vu m r T.rows hT.rise h]
  exact Pz hT (Zcu h).1
theorem each_in (n:Nat) (hn:1<=n) (l Bn n₀:Nat) (T:TT) (J Jx:List (KK×DD)->World->Prop)
  (W:World) (hAb:AbidesFrom W.heap.size J) (hT:T.Is W) (hlast:T.last<4000000) (hlt: ∀b∈T.blocks,b<n₀)
  (hY: ∀pre x W,J pre W->pre.length<T.live.length->YieldAt Fence.wide (n - 1) prog l (encP x) W fun e W'=>
   (e= .returned (.bool true)/\J (pre++ [x]) W'/\Kb n₀ Bn W W')∨(e= .returned (.bool false)/\Jx (pre++ [x]) W'))
  (hBn:W.cell? ⟨Bn,0,none⟩=some (.pointer (some ⟨T.t,0,none⟩))) (h0:J [] W) (hn₀:n₀<=W.heap.size):
  CallsIn Fence.wide n prog 80 #[.func (.yield l) #[] #[], .pointer (some ⟨Bn,0,none⟩)] W fun e W'=>(∃v,e= .returned v)/\
   ((∃ys,ys=T.live.map RR.pr/\J ys W')∨(∃pre,pre<+:T.live.map RR.pr/\Jx pre W')):=by
 have HN:=Ab (Zx T 0 W hT (by omega) (by omega))
 refine callsIn_of_wp func80 rfl trivial ?_ rfl
 simp only[ntmps80,List.size_toArray,List.length_cons,List.length_nil,Nat.reduceAdd,Nat.reduceSub,Array.replicate_succ,Array.replicate_zero,List.push_toArray,List.append_toArray,List.nil_append,List.cons_append]
 gi_wp2_with fail
 refine⟨trivial,(callsIn_wide.2 (Aa HN)).mono ?_⟩
 rintro e w1 ⟨rfl,rfl⟩
 gi_wp2
 gi_loopw [3] (fun s3 wr=> ∃(pre:List (KK×DD)) (m:Nat),s3=pv ((T.next m).map (·.b))/\Hid (T.live.map RR.pr=pre++(T.rows.filter (Gk m)).map RR.pr)/\Hid (J pre wr)/\Hid (T.Is wr)/\wr.cell? ⟨Bn,0,none⟩=some (.pointer (some ⟨T.t,0,none⟩))/\Hid (n₀<=wr.heap.size/\w1.heap.size<=wr.heap.size/\m<=T.last)) (fun s3 _=>left T s3)
 case atStart=>
  exact⟨[],0,rfl,Ab (by rw[ZeZ hT];rfl),Ab h0,Ab hT,hBn,Ab ⟨hn₀,Nat.le_refl _,Nat.zero_le _⟩⟩
 case round=>
  obtain⟨pre,m,rfl,HX,HJ,HT,hc,HZ⟩:=hrel
  have HY:=Ab hY
  have HAb:=Ab hAb
  clear hY hAb h0 hBn hT HN
  cases hnx:T.next m with
  |none=>
   rw[show pv ((none:Option RR).map (·.b))= .pointer none from rfl]
   gi_wp2
   refine wpIn_region_any (by kernel_rfl) ?_
   refine ip 0 (some 6) (.pointer none) rfl (by kernel_rfl) (by kernel_rfl) (by kernel_rfl) (fun _ _ _ h=>h) (by kernel_rfl) (by kernel_rfl) (fun _=>by kernel_rfl) (fun _=>by kernel_rfl) ?_
   simp only[nn]
   refine ip 1 (some 7) (.bool false) rfl (by kernel_rfl) (by kernel_rfl) (by kernel_rfl) (fun _ _ _ h=>h) (by kernel_rfl) (by kernel_rfl) (fun _=>by kernel_rfl) (fun _=>by kernel_rfl) ?_
   simp only[nn]
   refine ip 2 (some 8) (.bool false) rfl (by kernel_rfl) (by kernel_rfl) (by kernel_rfl) (fun _ _ _ h=>h) (by kernel_rfl) (by kernel_rfl) (fun _=>by kernel_rfl) (fun _=>by kernel_rfl) ?_
   simp only[nn]
   refine isk 3 (some 9) rfl (by kernel_rfl) (by kernel_rfl) (by kernel_rfl) (fun _ _ _ h=>h) (by kernel_rfl) (by kernel_rfl) (fun _=>by kernel_rfl) ?_
   simp only[nn]
   refine isk 4 (some 10) rfl (by kernel_rfl) (by kernel_rfl) (by kernel_rfl) (fun _ _ _ h=>h) (by kernel_rfl) (by kernel_rfl) (fun _=>by kernel_rfl) ?_
   simp only[nn]
   refine isk 5 (some 11) rfl (by kernel_rfl) (by kernel_rfl) (by kernel_rfl) (fun _ _ _ h=>h) (by kernel_rfl) (by kernel_rfl) (fun _=>by kernel_rfl) ?_
   simp only[nn]
   refine isk 6 (some 12) rfl (by kernel_rfl) (by kernel_rfl) (by kernel_rfl) (fun _ _ _ h=>h) (by kernel_rfl) (by kernel_rfl) (fun _=>by kernel_rfl) ?_
   simp only[nn]
   refine isk 7 (some 13) rfl (by kernel_rfl) (by kernel_rfl) (by kernel_rfl) (fun _ _ _ h=>h) (by kernel_rfl) (by kernel_rfl) (fun _=>by kernel_rfl) ?_
   simp only[nn]
   refine isk 8 (some 14) rfl (by kernel_rfl) (by kernel_rfl) (by kernel_rfl) (fun _ _ _ h=>h) (by kernel_rfl) (by kernel_rfl) (fun _=>by kernel_rfl) ?_
   simp only[nn]
   refine isk 9 (some 15) rfl (by kernel_rfl) (by kernel_rfl) (by kernel_rfl) (fun _ _ _ h=>h) (by kernel_rfl) (by kernel_rfl) (fun _=>by kernel_rfl) ?_
   simp only[nn]
   refine isk 10 (some 16) rfl (by kernel_rfl) (by kernel_rfl) (by kernel_rfl) (fun _ _ _ h=>h) (by kernel_rfl) (by kernel_rfl) (fun _=>by kernel_rfl) ?_
   simp only[nn]
   refine isk 11 (some 17) rfl (by kernel_rfl) (by kernel_rfl) (by kernel_rfl) (fun _ _ _ h=>h) (by kernel_rfl) (by kernel_rfl) (fun _=>by kernel_rfl) ?_
   simp only[nn]
   refine isk 12 (some 18) rfl (by kernel_rfl) (by kernel_rfl) (by kernel_rfl) (fun _ _ _ h=>h) (by kernel_rfl) (by kernel_rfl) (fun _=>by kernel_rfl) ?_
   simp only[nn]
   refine isk 13 (some 19) rfl (by kernel_rfl) (by kernel_rfl) (by kernel_rfl) (fun _ _ _ h=>h) (by kernel_rfl) (by kernel_rfl) (fun _=>by kernel_rfl) ?_
   simp only[nn]
   refine isk 14 (some 20) rfl (by kernel_rfl) (by kernel_rfl) (by kernel_rfl) (fun _ _ _ h=>h) (by kernel_rfl) (by kernel_rfl) (fun _=>by kernel_rfl) ?_
   simp only[nn]
   refine ip 15 (some 21) (.bool false) rfl (by kernel_rfl) (by kernel_rfl) (by kernel_rfl) (fun _ _ _ h=>h) (by kernel_rfl) (by kernel_rfl) (fun _=>by kernel_rfl) (fun _=>by kernel_rfl) ?_
   simp only[nn]
   refine wpAnyIn_done (by kernel_rfl) ?_ _
   try simp only[nn]
   gi_wp2
   go_end0
   refine⟨⟨_,rfl⟩, .inl ⟨pre, ?_, ?_⟩⟩
   ·rw[Aa HX,ZcG m _ hnx];simp
   ·exact(Aa HAb) pre wr wr.drew none (Aa HJ) (Ez ((Below.refl _ _).drew)) (fun r e=>by cases e)
  |some r=>
   rw[show pv ((some r:Option RR).map (·.b))= .pointer (some ⟨r.b,0,none⟩) from rfl]
   obtain⟨hrm,hrn,hrg⟩:=Zcu hnx
   have HR:=Ab ((Aa HT).rows r hrm)
   have hfc:=Vu m r T.rows (Aa HT).rise hnx
   have hlv:T.live.length=pre.length+((T.rows.filter (Gk r.n)).length+1):=by
    have:=congrArg List.length (Aa HX)
    rw[hfc] at this
    simpa using this
   have hJ1:=(Aa HAb) pre wr wr.drew none (Aa HJ) (Ez ((Below.refl _ _).drew)) (fun r e=>by cases e)
   obtain⟨fn,tmps,asg,bd,hy,hRd⟩:=(Aa HY) pre r.pr wr.drew hJ1 (by omega)
   have HRd:=Ab hRd
   have Hy:Hid ((Instr.yield l #[r.k.agg,r.d.agg]).run prog wr.drew= .ok (.round l fn tmps asg bd) wr.drew):=Ab hy
   have Hfc:=Ab hfc
   have Hrn:=Ab (And.intro hrm (And.intro hrn hrg))
   clear hRd hy hJ1 hfc hlv hrm hrn hrg
   gi_wp2
   refine wpIn_region_any (by kernel_rfl) ?_
   refine ip 0 (some 6) (.pointer (some ⟨r.b,0,none⟩)) rfl (by kernel_rfl) (by kernel_rfl) (by kernel_rfl) (fun _ _ _ h=>h) (by kernel_rfl) (by kernel_rfl) (fun _=>by kernel_rfl) (fun _=>by kernel_rfl) ?_
   simp only[nn]
   refine ip 1 (some 7) (.bool true) rfl (by kernel_rfl) (by kernel_rfl) (by kernel_rfl) (fun _ _ _ h=>h) (by kernel_rfl) (by kernel_rfl) (fun _=>by kernel_rfl) (fun _=>by kernel_rfl) ?_
   simp only[nn]
   refine ip 2 (some 8) (.bool true) rfl (by kernel_rfl) (by kernel_rfl) (by kernel_rfl) (fun _ _ _ h=>h) (by kernel_rfl) (by kernel_rfl) (fun _=>by kernel_rfl) (fun _=>by kernel_rfl) ?_
   simp only[nn]
   refine ip 3 (some 9) (.func (.yield l) #[] #[]) rfl (by kernel_rfl) (by kernel_rfl) (by kernel_rfl) (fun _ _ _ h=>h) (by kernel_rfl) (by kernel_rfl) (fun _=>by kernel_rfl) (fun _=>by kernel_rfl) ?_
   simp only[nn]
   refine ip 4 (some 10) (.pointer (some ⟨r.b,0,none⟩)) rfl (by kernel_rfl) (by kernel_rfl) (by kernel_rfl) (fun _ _ _ h=>h) (by kernel_rfl) (by kernel_rfl) (fun _=>by kernel_rfl) (fun _=>by kernel_rfl) ?_
   simp only[nn]
   refine ip 5 (some 11) (.pointer (some ⟨r.b,0,none⟩)) rfl (by kernel_rfl) (by kernel_rfl) (by kernel_rfl) (fun _ _ _ h=>h) (by kernel_rfl) (by kernel_rfl) (fun _=>by kernel_rfl) (fun _=>by kernel_rfl) ?_
   simp only[nn]
   refine ip 6 (some 12) (.pointer (some ⟨r.b,0,none⟩)) rfl (by kernel_rfl) (by kernel_rfl) (by kernel_rfl) (fun _ _ _ h=>h) (by kernel_rfl) (by kernel_rfl) (fun _=>by kernel_rfl) (fun _=>by kernel_rfl) ?_
   simp only[nn]
   refine ip 7 (some 13) (.pointer (some ⟨r.b,0,none⟩)) rfl (by kernel_rfl) (by kernel_rfl) (by kernel_rfl) (fun _ _ _ h=>h) (by kernel_rfl) (by kernel_rfl) (fun _=>by kernel_rfl) (fun _=>by kernel_rfl) ?_
   simp only[nn]
   refine ip 9 (some 15) (.pointer (some ⟨r.b,0,none⟩)) rfl (by kernel_rfl) (by kernel_rfl) (by kernel_rfl) (fun _ _ _ h=>h) (by kernel_rfl) (by kernel_rfl) (fun _=>by kernel_rfl) (fun _=>by kernel_rfl) ?_
   simp only[nn]
   refine ip 10 (some 16) (.pointer (some ⟨r.b,0,none⟩)) rfl (by kernel_rfl) (by kernel_rfl) (by kernel_rfl) (fun _ _ _ h=>h) (by kernel_rfl) (by kernel_rfl) (fun _=>by kernel_rfl) (fun _=>by kernel_rfl) ?_
   simp only[nn]
   refine ip 11 (some 17) (.pointer (some ⟨r.b,0,none⟩)) rfl (by kernel_rfl) (by kernel_rfl) (by kernel_rfl) (fun _ _ _ h=>h) (by kernel_rfl) (by kernel_rfl) (fun _=>by kernel_rfl) (fun _=>by kernel_rfl) ?_
   simp only[nn]
   refine ip 12 (some 18) (.pointer (some ⟨r.b,2,none⟩)) rfl (by kernel_rfl) (by kernel_rfl) (by kernel_rfl) (fun _ _ _ h=>h) (by kernel_rfl) (by kernel_rfl) (fun _=>by kernel_rfl) (fun _=>by kernel_rfl) ?_
   simp only[nn]
   refine wpAnyIn_ready (rs:= [8,13]) (by kernel_rfl) (by simp) (Yo 8 (some 14) rfl (by kernel_rfl) (by kernel_rfl) (Af (vs:=r.k.cs) 48 2 Jt Kt rfl rfl ((Holds.block (Aa HR) rfl)) rfl rfl) ?_ (Yo 13 (some 19) rfl (by kernel_rfl) (by kernel_rfl) (Af (vs:=r.d.cs) 39 18 Zp Pm rfl rfl ((Holds.block (Aa HR) rfl)) rfl rfl) ?_ AllReadyIn.nil))
   ·simp only[nn]
    refine wpAnyIn_ready (rs:= [13]) (by kernel_rfl) (by simp) (Yo 13 (some 19) rfl (by kernel_rfl) (by kernel_rfl) (Af (vs:=r.d.cs) 39 18 Zp Pm rfl rfl ((Holds.block (Aa HR) rfl)) rfl rfl) ?_ AllReadyIn.nil)
    simp only[nn]
    refine wpAnyIn_ready (rs:= [14]) (by kernel_rfl) (by simp) (iround 14 (some 20) rfl (by kernel_rfl) (by kernel_rfl) (Eq.trans (b:=(Instr.yield l #[r.k.agg,r.d.agg]).run prog wr.drew) (by kernel_rfl) (Aa Hy)) (Aa HRd) ?_ AllReadyIn.nil)
    rintro e W3 (⟨rfl,hJ3,hb3⟩|⟨rfl,hJx3⟩)
    ·refine⟨_,rfl, ?_⟩
     simp only[nn]
     refine ip 15 (some 21) (.bool true) rfl (by kernel_rfl) (by kernel_rfl) (by kernel_rfl) (fun _ _ _ h=>h) (by kernel_rfl) (by kernel_rfl) (fun _=>by kernel_rfl) (fun _=>by kernel_rfl) ?_
     simp only[nn]
     refine wpAnyIn_done (by kernel_rfl) ?_ _
     try simp only[nn]
     have HT3:=Ab ((Aa HT).block (fun b hb=>hb3.1.block b (hlt b hb)))
     have hc3:W3.cell? ⟨Bn,0,none⟩=some (.pointer (some ⟨T.t,0,none⟩)):=(World.cell?_of_block (a:=⟨Bn,0,none⟩) hb3.2).trans hc
     have HJ3:=Ab hJ3
     have Hs3:=Ab hb3.1.size
     clear hJ3 hb3
     gi_wp2
     refine wpIn_region_any (by kernel_rfl) ?_
     refine ip 1 (some 23) (.pointer (some ⟨r.b,0,none⟩)) rfl (by kernel_rfl) (by kernel_rfl) (by kernel_rfl) (fun _ _ _ h=>h) (by kernel_rfl) (by kernel_rfl) (fun _=>by kernel_rfl) (fun _=>by kernel_rfl) ?_
     simp only[nn]
     refine ip 2 (some 24) (.pointer (some ⟨r.b,0,none⟩)) rfl (by kernel_rfl) (by kernel_rfl) (by kernel_rfl) (fun _ _ _ h=>h) (by kernel_rfl) (by kernel_rfl) (fun _=>by kernel_rfl) (fun _=>by kernel_rfl) ?_
     simp only[nn]
     refine ip 3 (some 25) (.pointer (some ⟨r.b,20,none⟩)) rfl (by kernel_rfl) (by kernel_rfl) (by kernel_rfl) (fun _ _ _ h=>h) (by kernel_rfl) (by kernel_rfl) (fun _=>by kernel_rfl) (fun _=>by kernel_rfl) ?_
     simp only[nn]
     refine wpAnyIn_ready (rs:= [0,4]) (by kernel_rfl) (by simp) (Yo 0 (some 22) rfl (by kernel_rfl) (by kernel_rfl) (Jz (W:=W3.drew) 97 isAgg97 rfl rfl hc3) ?_ (Yo 4 (some 26) rfl (by kernel_rfl) (by kernel_rfl) (Ad 87 isAgg87 rfl rfl ((Holds.block ((Aa HT3).rows r (Aa Hrn).1) rfl:Holds W3.drew r.b r.cs)) rfl) ?_ AllReadyIn.nil))
     ·simp only[nn]
      refine wpAnyIn_ready (rs:= [4]) (by kernel_rfl) (by simp) (Yo 4 (some 26) rfl (by kernel_rfl) (by kernel_rfl) (Ad 87 isAgg87 rfl rfl ((Holds.block ((Aa HT3).rows r (Aa Hrn).1) rfl:Holds W3.drew r.b r.cs)) rfl) ?_ AllReadyIn.nil)
      simp only[nn]
      refine wpAnyIn_ready (rs:= [5]) (by kernel_rfl) (by simp) (Zee 5 (some 27) rfl (by kernel_rfl) (by kernel_rfl) (by kernel_rfl) (Zx T r.n W3.drew (Aa HT3).drew (by omega) (by have:=((Aa HT3).num r (Aa Hrn).1).2;omega)) ?_ AllReadyIn.nil)
      rintro e X ⟨rfl,rfl⟩
      refine⟨_,rfl, ?_⟩
      simp only[nn]
      refine ip 6 (some 3) (pv ((T.next r.n).map (·.b))) rfl (by kernel_rfl) (by kernel_rfl) (by kernel_rfl) (fun _ _ _ h=>h) (by kernel_rfl) (by kernel_rfl) (fun _=>by kernel_rfl) (fun _=>by kernel_rfl) ?_
      simp only[nn]
      refine wpAnyIn_done (by kernel_rfl) ?_ _
      try simp only[nn]
      gi_wp2
      go_roundw
      case rel=>
       refine⟨pre++ [r.pr],r.n,rfl,Ab ?_,Ab ?_,Ab (Aa HT3).drew,hc3,Ab ?_⟩
       ·rw[Aa HX,Aa Hfc];simp
       ·exact(Aa HAb) _ W3 W3.drew none (Aa HJ3) (Ez ((Below.refl _ _).drew)) (fun r e=>by cases e)
       ·have h1:=Aa HZ;have h2:wr.heap.size<=W3.heap.size:=Aa Hs3;have h3:=((Aa HT3).num r (Aa Hrn).1).2;exact⟨Nat.le_trans h1.1 h2,Nat.le_trans h1.2.1 h2,h3⟩
      case measure=>
       rw[Qs (Aa HT3),Pz (Aa HT3) (Aa Hrn).1]
       exact Nat.lt_succ_self _
     ·simp only[nn]
      refine wpAnyIn_ready (rs:= [0]) (by kernel_rfl) (by simp) (Yo 0 (some 22) rfl (by kernel_rfl) (by kernel_rfl) (Jz (W:=W3.drew) 97 isAgg97 rfl rfl hc3) ?_ AllReadyIn.nil)
      simp only[nn]
      refine wpAnyIn_ready (rs:= [5]) (by kernel_rfl) (by simp) (Zee 5 (some 27) rfl (by kernel_rfl) (by kernel_rfl) (by kernel_rfl) (Zx T r.n W3.drew (Aa HT3).drew (by omega) (by have:=((Aa HT3).num r (Aa Hrn).1).2;omega)) ?_ AllReadyIn.nil)
      rintro e X ⟨rfl,rfl⟩
      refine⟨_,rfl, ?_⟩
      simp only[nn]
      refine ip 6 (some 3) (pv ((T.next r.n).map (·.b))) rfl (by kernel_rfl) (by kernel_rfl) (by kernel_rfl) (fun _ _ _ h=>h) (by kernel_rfl) (by kernel_rfl) (fun _=>by kernel_rfl) (fun _=>by kernel_rfl) ?_
      simp only[nn]
      refine wpAnyIn_done (by kernel_rfl) ?_ _
      try simp only[nn]
      gi_wp2
      go_roundw
      case rel=>
       refine⟨pre++ [r.pr],r.n,rfl,Ab ?_,Ab ?_,Ab (Aa HT3).drew,hc3,Ab ?_⟩
       ·rw[Aa HX,Aa Hfc];simp
       ·exact(Aa HAb) _ W3 W3.drew none (Aa HJ3) (Ez ((Below.refl _ _).drew)) (fun r e=>by cases e)
       ·have h1:=Aa HZ;have h2:wr.heap.size<=W3.heap.size:=Aa Hs3;have h3:=((Aa HT3).num r (Aa Hrn).1).2;exact⟨Nat.le_trans h1.1 h2,Nat.le_trans h1.2.1 h2,h3⟩
      case measure=>
       rw[Qs (Aa HT3),Pz (Aa HT3) (Aa Hrn).1]
       exact Nat.lt_succ_self _
    ·refine⟨_,rfl, ?_⟩
     simp only[nn]
     refine ip 15 (some 21) (.bool false) rfl (by kernel_rfl) (by kernel_rfl) (by kernel_rfl) (fun _ _ _ h=>h) (by kernel_rfl) (by kernel_rfl) (fun _=>by kernel_rfl) (fun _=>by kernel_rfl) ?_
     simp only[nn]
     refine wpAnyIn_done (by kernel_rfl) ?_ _
     try simp only[nn]
     have HJx:=Ab hJx3
     clear hJx3
     gi_wp2
     go_end0
     refine⟨⟨_,rfl⟩, .inr ⟨pre++ [r.pr], ?_,Aa HJx⟩⟩
     rw[Aa HX,Aa Hfc]
     exact⟨(T.rows.filter (Gk r.n)).map RR.pr,by simp⟩
   ·simp only[nn]
    refine wpAnyIn_ready (rs:= [8]) (by kernel_rfl) (by simp) (Yo 8 (some 14) rfl (by kernel_rfl) (by kernel_rfl) (Af (vs:=r.k.cs) 48 2 Jt Kt rfl rfl ((Holds.block (Aa HR) rfl)) rfl rfl) ?_ AllReadyIn.nil)
    simp only[nn]
    refine wpAnyIn_ready (rs:= [14]) (by kernel_rfl) (by simp) (iround 14 (some 20) rfl (by kernel_rfl) (by kernel_rfl) (Eq.trans (b:=(Instr.yield l #[r.k.agg,r.d.agg]).run prog wr.drew) (by kernel_rfl) (Aa Hy)) (Aa HRd) ?_ AllReadyIn.nil)
    rintro e W3 (⟨rfl,hJ3,hb3⟩|⟨rfl,hJx3⟩)
    ·refine⟨_,rfl, ?_⟩
     simp only[nn]
     refine ip 15 (some 21) (.bool true) rfl (by kernel_rfl) (by kernel_rfl) (by kernel_rfl) (fun _ _ _ h=>h) (by kernel_rfl) (by kernel_rfl) (fun _=>by kernel_rfl) (fun _=>by kernel_rfl) ?_
     simp only[nn]
     refine wpAnyIn_done (by kernel_rfl) ?_ _
     try simp only[nn]
     have HT3:=Ab ((Aa HT).block (fun b hb=>hb3.1.block b (hlt b hb)))
     have hc3:W3.cell? ⟨Bn,0,none⟩=some (.pointer (some ⟨T.t,0,none⟩)):=(World.cell?_of_block (a:=⟨Bn,0,none⟩) hb3.2).trans hc
     have HJ3:=Ab hJ3
     have Hs3:=Ab hb3.1.size
     clear hJ3 hb3
     gi_wp2
     refine wpIn_region_any (by kernel_rfl) ?_
     refine ip 1 (some 23) (.pointer (some ⟨r.b,0,none⟩)) rfl (by kernel_rfl) (by kernel_rfl) (by kernel_rfl) (fun _ _ _ h=>h) (by kernel_rfl) (by kernel_rfl) (fun _=>by kernel_rfl) (fun _=>by kernel_rfl) ?_
     simp only[nn]
     refine ip 2 (some 24) (.pointer (some ⟨r.b,0,none⟩)) rfl (by kernel_rfl) (by kernel_rfl) (by kernel_rfl) (fun _ _ _ h=>h) (by kernel_rfl) (by kernel_rfl) (fun _=>by kernel_rfl) (fun _=>by kernel_rfl) ?_
     simp only[nn]
     refine ip 3 (some 25) (.pointer (some ⟨r.b,20,none⟩)) rfl (by kernel_rfl) (by kernel_rfl) (by kernel_rfl) (fun _ _ _ h=>h) (by kernel_rfl) (by kernel_rfl) (fun _=>by kernel_rfl) (fun _=>by kernel_rfl) ?_
     simp only[nn]
     refine wpAnyIn_ready (rs:= [0,4]) (by kernel_rfl) (by simp) (Yo 0 (some 22) rfl (by kernel_rfl) (by kernel_rfl) (Jz (W:=W3.drew) 97 isAgg97 rfl rfl hc3) ?_ (Yo 4 (some 26) rfl (by kernel_rfl) (by kernel_rfl) (Ad 87 isAgg87 rfl rfl ((Holds.block ((Aa HT3).rows r (Aa Hrn).1) rfl:Holds W3.drew r.b r.cs)) rfl) ?_ AllReadyIn.nil))
     ·simp only[nn]
      refine wpAnyIn_ready (rs:= [4]) (by kernel_rfl) (by simp) (Yo 4 (some 26) rfl (by kernel_rfl) (by kernel_rfl) (Ad 87 isAgg87 rfl rfl ((Holds.block ((Aa HT3).rows r (Aa Hrn).1) rfl:Holds W3.drew r.b r.cs)) rfl) ?_ AllReadyIn.nil)
      simp only[nn]
      refine wpAnyIn_ready (rs:= [5]) (by kernel_rfl) (by simp) (Zee 5 (some 27) rfl (by kernel_rfl) (by kernel_rfl) (by kernel_rfl) (Zx T r.n W3.drew (Aa HT3).drew (by omega) (by have:=((Aa HT3).num r (Aa Hrn).1).2;omega)) ?_ AllReadyIn.nil)
      rintro e X ⟨rfl,rfl⟩
      refine⟨_,rfl, ?_⟩
      simp only[nn]
      refine ip 6 (some 3) (pv ((T.next r.n).map (·.b))) rfl (by kernel_rfl) (by kernel_rfl) (by kernel_rfl) (fun _ _ _ h=>h) (by kernel_rfl) (by kernel_rfl) (fun _=>by kernel_rfl) (fun _=>by kernel_rfl) ?_
      simp only[nn]
      refine wpAnyIn_done (by kernel_rfl) ?_ _
      try simp only[nn]
      gi_wp2
      go_roundw
      case rel=>
       refine⟨pre++ [r.pr],r.n,rfl,Ab ?_,Ab ?_,Ab (Aa HT3).drew,hc3,Ab ?_⟩
       ·rw[Aa HX,Aa Hfc];simp
       ·exact(Aa HAb) _ W3 W3.drew none (Aa HJ3) (Ez ((Below.refl _ _).drew)) (fun r e=>by cases e)
       ·have h1:=Aa HZ;have h2:wr.heap.size<=W3.heap.size:=Aa Hs3;have h3:=((Aa HT3).num r (Aa Hrn).1).2;exact⟨Nat.le_trans h1.1 h2,Nat.le_trans h1.2.1 h2,h3⟩
      case measure=>
       rw[Qs (Aa HT3),Pz (Aa HT3) (Aa Hrn).1]
       exact Nat.lt_succ_self _
     ·simp only[nn]
      refine wpAnyIn_ready (rs:= [0]) (by kernel_rfl) (by simp) (Yo 0 (some 22) rfl (by kernel_rfl) (by kernel_rfl) (Jz (W:=W3.drew) 97 isAgg97 rfl rfl hc3) ?_ AllReadyIn.nil)
      simp only[nn]
      refine wpAnyIn_ready (rs:= [5]) (by kernel_rfl) (by simp) (Zee 5 (some 27) rfl (by kernel_rfl) (by kernel_rfl) (by kernel_rfl) (Zx T r.n W3.drew (Aa HT3).drew (by omega) (by have:=((Aa HT3).num r (Aa Hrn).1).2;omega)) ?_ AllReadyIn.nil)
      rintro e X ⟨rfl,rfl⟩
      refine⟨_,rfl, ?_⟩
      simp only[nn]
      refine ip 6 (some 3) (pv ((T.next r.n).map (·.b))) rfl (by kernel_rfl) (by kernel_rfl) (by kernel_rfl) (fun _ _ _ h=>h) (by kernel_rfl) (by kernel_rfl) (fun _=>by kernel_rfl) (fun _=>by kernel_rfl) ?_
      simp only[nn]
      refine wpAnyIn_done (by kernel_rfl) ?_ _
      try simp only[nn]
      gi_wp2
      go_roundw
      case rel=>
       refine⟨pre++ [r.pr],r.n,rfl,Ab ?_,Ab ?_,Ab (Aa HT3).drew,hc3,Ab ?_⟩
       ·rw[Aa HX,Aa Hfc];simp
       ·exact(Aa HAb) _ W3 W3.drew none (Aa HJ3) (Ez ((Below.refl _ _).drew)) (fun r e=>by cases e)
       ·have h1:=Aa HZ;have h2:wr.heap.size<=W3.heap.size:=Aa Hs3;have h3:=((Aa HT3).num r (Aa Hrn).1).2;exact⟨Nat.le_trans h1.1 h2,Nat.le_trans h1.2.1 h2,h3⟩
      case measure=>
       rw[Qs (Aa HT3),Pz (Aa HT3) (Aa Hrn).1]
       exact Nat.lt_succ_self _
    ·refine⟨_,rfl, ?_⟩
     simp only[nn]
     refine ip 15 (some 21) (.bool false) rfl (by kernel_rfl) (by kernel_rfl) (by kernel_rfl) (fun _ _ _ h=>h) (by kernel_rfl) (by kernel_rfl) (fun _=>by kernel_rfl) (fun _=>by kernel_rfl) ?_
     simp only[nn]
     refine wpAnyIn_done (by kernel_rfl) ?_ _
     try simp only[nn]
     have HJx:=Ab hJx3
     clear hJx3
     gi_wp2
     go_end0
     refine⟨⟨_,rfl⟩, .inr ⟨pre++ [r.pr], ?_,Aa HJx⟩⟩
     rw[Aa HX,Aa Hfc]
     exact⟨(T.rows.filter (Gk r.n)).map RR.pr,by simp⟩
end
section
open Go Go.Proofs Go.RowKit
def kd (k:KK):Int:=ZaM k.s k.n
def kn (k:KK):Nat:=ZbF k.s k.n
def ixs (l:List KK):List Nat:=(l.filter (fun k=>kd k==0)).map kn
def Oj (l:List KK):List KK:=l.filter (fun k=>kd k==1)
def Oi (l:List KK):List KK:=l.filter (fun k=>kd k==2)
theorem ZeF (l:List KK) (j:Nat) (h:j<l.length):l.take (j+1)=l.take j++ [l[j]]:=List.take_succ_eq_append_getElem h
theorem Zd9 (l:List KK):(ixs l).length<=l.length:=by unfold ixs;rw[List.length_map];exact List.length_filter_le _ _
theorem Zca (l:List KK):(Oj l).length<=l.length:=List.length_filter_le _ _
theorem Zb9 (l:List KK):(Oi l).length<=l.length:=List.length_filter_le _ _
theorem step_0 (l:List KK) (k:KK) (h:kd k=0):ixs (l++ [k])=ixs l++ [kn k]/\Oj (l++ [k])=Oj l/\Oi (l++ [k])=Oi l:=by
 unfold ixs Oj Oi
 simp[List.filter_append,h]
theorem step_1 (l:List KK) (k:KK) (h:kd k=1):ixs (l++ [k])=ixs l/\Oj (l++ [k])=Oj l++ [k]/\Oi (l++ [k])=Oi l:=by
 unfold ixs Oj Oi
 simp[List.filter_append,h]
theorem step_2 (l:List KK) (k:KK) (h:kd k=2):ixs (l++ [k])=ixs l/\Oj (l++ [k])=Oj l/\Oi (l++ [k])=Oi l++ [k]:=by
 unfold ixs Oj Oi
 simp[List.filter_append,h]
theorem Nc {w:World} {base:Nat} {v:Value} {l:List KK} (h:OwnK w base v l): ∀c,v= .slice none 0 c->c=0:=by
 intro c hc
 rcases h.form with ⟨rfl,_⟩|⟨g,c',rfl,_⟩
 ·cases hc;rfl
 ·cases hc
def G3 (w W:World) (v3 v4 v5:Value) (l:List KK):Prop:=R3 w W v3 v4 v5 (ixs l) (Oj l) (Oi l)
def mg (d:List Nat):List Nat:=d.mergeSort (fun x y=> !ltN y x)
theorem mg_len (d:List Nat):(mg d).length=d.length:=List.length_mergeSort d
theorem Zcb (v:Value) (d:List Nat) (base:Nat) (w:World) (h:OwnU w base v d) (hlen:d.length<=1500000):
  Calls Tryz.prog 180 #[v] w fun e w'=>e= .returned (.tuple #[])/\w.grownBy w' v.ownBlock/\(∀g,v.ownBlock=some g-> ∃c,v= .slice (some ⟨g,0,none⟩) d.length c/\LiesU w' g (mg d).toArray)/\(v.ownBlock=none->v= .slice none 0 0/\d= []):=by
 rcases h.2 with ⟨rfl,h0⟩|⟨g,c,cur,rfl,h1,h2,h3,h4,h5,h6⟩
 ·have hd:d= []:=List.length_eq_zero_iff.1 h0
  exact(Zc6 w).mono (fun e w' hh=>⟨hh.1,hh.2,(fun g hg=>by cases hg),fun _=>⟨rfl,hd⟩⟩)
 ·have hL:LiesU w g d.toArray:=by
   refine⟨(cur.toList.drop d.length).toArray, ?_⟩
   rw[h2]
   congr 2
   apply Array.toList_inj.1
   simp only[Array.toList_append,Array.toList_map]
   rw[←h6,Nat.mul_one]
   exact(List.take_append_drop _ _).symm
  have hs:=sort31 g c d.toArray w hL (by simpa using hlen)
  rw[List.size_toArray] at hs
  refine hs.mono ?_
  rintro e w' ⟨rfl,d',hd',hl',hg'⟩
  refine⟨rfl,hg',fun g' hgg=> ?_,fun hn=>by cases hn⟩
  have eg:g=g':=by simpa [Value.ownBlock] using hgg
  subst eg
  refine⟨c,rfl, ?_⟩
  have:d'=(mg d).toArray:=Array.toList_inj.1 (by rw[hd'];rfl)
  rw[←this]
  exact hl'
theorem Zd7 {ops:Array Oper} {rest:List Oper} {o:Oper} {a:Act} {w:World} {Q:Exit->Act->World->Prop} {x:Operand} {c base:Nat} (hw:Region.wanted o (yielded ops a.tmps)=true) (ho:o.op= .makeSlice 40 (.const (.int .i64 0)) x) (hx:a.eval x= .int .i64 (c:Nat)) (hc:c<=1500000) (hb:base<=w.heap.size)
  (h: ∀X B,w.heap.size<=B->OwnK X base (.slice (some ⟨B,0,none⟩) 0 c) []->w.grownBy X none->wpList Tryz.prog ops Q rest (a.put o.dst (.slice (some ⟨B,0,none⟩) 0 c)) X):wpList Tryz.prog ops Q (o::rest) a w:=by
 refine BigFrame.wpList_want hw fun K hK=> ?_
 obtain⟨i0,hi,hz0,hz1,hz2⟩:=info_parts Qv
 obtain⟨w',hrun,h1,h2⟩:=run_makeSlice_owned w base 40 48 i0 _ 2 Tryz.underlying40 hi hz0 hz1 .i64 .i64 c (by omega) (by rw[hz2];omega) (by unfold maxLen;omega) hb
 have hP:=hK _ _ (h w' _ (Nat.le_refl _) h1 h2)
 unfold Oper.wp execOp
 simp only[ho,hx]
 simp[Act.eval,hrun]
 exact hP
structure R4 (w W:World) (v4 v5 v10:Value) (ks ys out:List KK) (gb:Option Nat) (ob:Option Obj):Prop where
 below:Below w.heap.size w W
 o4:OwnK W w.heap.size v4 ks
 o5:OwnK W w.heap.size v5 ys
 o10:OwnK W w.heap.size v10 out
 a45:Apart v4 v5
 a104:Apart v10 v4
 a105:Apart v10 v5
 idx: ∀g,gb=some g->g<W.heap.size/\W.heap[g]? =ob/\v10.ownBlock≠some g
section
variable {w W W' : World} {v4 v5 v10 v' : Value} {ks ys out : List KK} {gb : Option Nat} {ob : Option Obj}
theorem R4.on (h:R4 w W v4 v5 v10 ks ys out gb ob) (hb:Below W.heap.size W W'):R4 w W' v4 v5 v10 ks ys out gb ob:=
 ⟨h.below.trans (hb.mono h.below.size),h.o4.on hb,h.o5.on hb,h.o10.on hb,h.a45,h.a104,h.a105,fun g hg=>⟨Nat.lt_of_lt_of_le (h.idx g hg).1 hb.size,(hb.block g (h.idx g hg).1).trans (h.idx g hg).2.1,(h.idx g hg).2.2⟩⟩
theorem R4.put {n:List KK} (h:R4 w W v4 v5 v10 ks ys out gb ob) (ho:OwnK W' w.heap.size v' (out++n)) (hg:W.grownBy W' v10.ownBlock) (hf:Nl W v10 v'):R4 w W' v4 v5 v' ks ys (out++n) gb ob:=
 ⟨h.below.grown hg h.below.size (fun k hk=>(h.o10.own k hk).1),h.o4.block (fun g hg'=>hg.block g (h.o4.own g hg').2 (fun e=>h.a104 g e.symm hg')),h.o5.block (fun g hg'=>hg.block g (h.o5.own g hg').2 (fun e=>h.a105 g e.symm hg')),ho,
  h.a45,h.a104.fresh hf (fun g hg=>(h.o4.own g hg).2),h.a105.fresh hf (fun g hg=>(h.o5.own g hg).2),fun g hgb=>⟨Nat.lt_of_lt_of_le (h.idx g hgb).1 hg.size,(hg.block g (h.idx g hgb).1 (fun e=>(h.idx g hgb).2.2 e.symm)).trans (h.idx g hgb).2.1,fun he=>by
   rcases hf with e|e
   ·exact(h.idx g hgb).2.2 (e▸he)
   ·rw[e] at he
    have h2:W.heap.size=g:=by simpa using he
    have:=(h.idx g hgb).1
    omega⟩⟩
end
theorem R3.sorted {w W W' X:World} {v3 v4 v5:Value} {d:List Nat} {ks ys:List KK} {B c:Nat} (h:R3 w W v3 v4 v5 d ks ys) (hg:W.grownBy W' v3.ownBlock) (hB:W'.heap.size<=B) (ho:OwnK X w.heap.size (.slice (some ⟨B,0,none⟩) 0 c) []) (hX:W'.grownBy X none):
  R4 w X v4 v5 (.slice (some ⟨B,0,none⟩) 0 c) ks ys [] v3.ownBlock (v3.ownBlock.bind fun g=>W'.heap[g]?):=by
 have hs:=hg.size
 refine⟨(h.below.grown hg h.below.size (fun k hk=>(h.o3.own k hk).1)).grown hX (Nat.le_trans h.below.size hs) (fun k hk=>by cases hk), ?_, ?_,ho,h.a45, ?_, ?_, ?_⟩
 ·refine h.o4.block (fun g hg'=> ?_)
  have hl:=(h.o4.own g hg').2
  rw[hX.block g (by omega) (by simp),hg.block g hl (fun e=>h.a34 g e.symm hg')]
 ·refine h.o5.block (fun g hg'=> ?_)
  have hl:=(h.o5.own g hg').2
  rw[hX.block g (by omega) (by simp),hg.block g hl (fun e=>h.a35 g e.symm hg')]
 ·intro g h1 h2
  have e:B=g:=by simpa [Value.ownBlock] using h1
  have:=(h.o4.own g h2).2
  omega
 ·intro g h1 h2
  have e:B=g:=by simpa [Value.ownBlock] using h1
  have:=(h.o5.own g h2).2
  omega
 ·intro g hgb
  have hl:=(h.o3.own g hgb).2
  refine⟨Nat.lt_of_lt_of_le (Nat.lt_of_lt_of_le hl hs) hX.size, ?_, ?_⟩
  ·rw[hX.block g (by omega) (by simp),hgb]
   rfl
  ·intro he
   have e:B=g:=by simpa [Value.ownBlock] using he
   omega
theorem mg_le (l:List KK): ∀u∈mg (ixs l),u<=4294967295:=by
 intro u hu
 unfold mg at hu
 rw[List.mem_mergeSort] at hu
 unfold ixs at hu
 obtain⟨k,_,rfl⟩:=List.mem_map.1 hu
 have:=kn_le k.s k.n
 unfold kn
 omega
theorem LiesU.blk {w w':World} {g:Nat} {d:Array Nat} {ob:Option Obj} (h:LiesU w g d) (he:w'.heap[g]? =ob) (h2:ob=w.heap[g]?):LiesU w' g d:=by
 obtain⟨r,hr⟩:=h
 exact⟨r,by rw[he,h2,hr]⟩
end
section
open Go Go.Proofs Go.Maps Go.RowKit Tryz
theorem Hq.three (w:World) (E:List Nat) {b0:Nat} {c0:List Value} (h0:Holds w b0 c0) (hc0:0<c0.length) (a b:List Value) (s t:TypeId) (ha:0<a.length) (hb:0<b.length):Hq w ((w.alloc (Obj.cells a.toArray s)).alloc (Obj.cells b.toArray t)) E [(b0,c0),(w.heap.size,a),(w.heap.size+1,b)]:=by
 have h:=(((Hq.nil w E).add h0 hc0 (fun q hq=>by cases hq)).new a s ha).new b t hb
 rw[show (w.alloc (Obj.cells a.toArray s)).heap.size=w.heap.size+1 by simp] at h
 exact h
theorem Zas {o:Oper} {a:Act} {w:World} {x y:Operand} {k:KK} {d:DD} (ho:o.op= .build 69 #[(0,x),(1,y)]) (hx:a.eval x= .agg k.cs.toArray) (hy:a.eval y= .agg d.cs.toArray):(execOp a.eval o).run prog w= .ok (.value (.agg (k.cs++d.cs).toArray)) w:=by
 have e:(Instr.build 69 #[(0, .agg k.cs.toArray),(1, .agg d.cs.toArray)]).run prog w= .ok (.agg (k.cs++d.cs).toArray) w:=by kernel_rfl
 unfold execOp
 simp only[ho,List.map_toArray,List.map_cons,List.map_nil,hx,hy]
 simp[e]
theorem Zbk {w X:World} {E:List Nat} (h:Lib.Utf8Tabs 1 2 w) (hf:Fr w X E) (hE: ∀b∈E,3<=b):Lib.Utf8Tabs 1 2 X:=by
 have hs:=ZaT h
 have e2:X.heap[1]? =w.heap[1]? :=hf.block 1 (by omega) (fun hm=>by have:=hE _ hm;omega)
 have e3:X.heap[2]? =w.heap[2]? :=hf.block 2 (by omega) (fun hm=>by have:=hE _ hm;omega)
 exact⟨fun c hc=>(World.cell?_of_block (a:=⟨1,c,none⟩) e2).trans (h.1 c hc),fun i hi=>⟨(World.cell?_of_block (a:=⟨2,2 * i,none⟩) e3).trans (h.2 i hi).1,(World.cell?_of_block (a:=⟨2,2 * i+1,none⟩) e3).trans (h.2 i hi).2⟩⟩
theorem Zb2 {T:TT} {w X:World} {rv:Value} {R:Nat} {k:KK} {d:DD} (hg: ∀g,rv.ownBlock=some g->T.rv.ownBlock=some g∨X.heap.size<=g) (hR:w.heap.size<=R) (hs:w.heap.size<=X.heap.size): ∀b∈(T.added rv R k d).blocks,b∈T.blocks∨w.heap.size<=b:=by
 intro b hb
 simp only[TT.blocks,TT.added,List.mem_cons,List.mem_append,List.map_append,List.map_cons,List.map_nil,List.not_mem_nil,or_false] at hb ⊢
 rcases hb with h|h|h|h|h
 ·exact .inl (.inl h)
 ·exact .inl (.inr (.inl h))
 ·rcases hg b (by simpa using h) with h|h
  ·exact .inl (.inr (.inr (.inl (by rw[h];simp))))
  ·exact .inr (by omega)
 ·exact .inl (.inr (.inr (.inr h)))
 ·exact .inr (by omega)
theorem put_some (T:TT) (k:KK) (d:DD) (w:World) (hT:T.Is w) (hU:Lib.Utf8Tabs 1 2 w) (hk:OkK k) (hl:T.last<4000000) (r:RR) (hf:T.find k=some r):Calls prog 75 #[.pointer (some ⟨T.t,0,none⟩),k.agg,d.agg] w fun e w'=>e= .returned (.int .i64 (0))/\ ∃T':TT,T'.Is w'/\T'.t=T.t/\Fr w w' T.blocks/\(∀b∈T'.blocks,b∈T.blocks∨w.heap.size<=b)/\((∃r,T.find k=some r/\T'=T.upd r.b d)∨(T.find k=none/\goodK k=true/\ ∃rv R,T'=T.added rv R k d)∨(T.find k=none/\goodK k=false/\T'=T)):=by
 have hr:=(T.find_mem hf).1
 have LL:=Ab (Hq.three w T.blocks (hT.rows r hr) (Nat.succ_pos _) k.cs d.cs 48 39 (Nat.succ_pos _) (Nat.succ_pos _))
 have HT:=Ab (hT.on (Nv w k.cs.toArray d.cs.toArray 48 39))
 have HH:=Ab hT
 clear hT
 rw[show k.agg= .agg k.cs.toArray from rfl,show d.agg= .agg d.cs.toArray from rfl]
 go_enter func75,ntmps75
 go_wp2
 refine wp_region_held_drew (P:=prog) (S:=fun X=>T.Is X/\Hq w X T.blocks [(r.b,r.cs),(w.heap.size,k.cs),(w.heap.size+1,d.cs)]) (by kernel_rfl) ⟨(Aa HT).drew,(Aa LL).drew⟩ (fun hS0=> ?_)
 refine y0 0 (some 11) (.pointer (some ⟨T.t,0,none⟩)) rfl hS0 ?_
 refine y0 1 (some 12) (.pointer (some ⟨T.t,0,none⟩)) rfl hS0 ?_
 refine y0 2 (some 13) (.pointer (some ⟨T.t,0,none⟩)) rfl hS0 ?_
 refine y1 3 (some 14) (.map (some T.m)) rfl (fun X hX=>Ad 142 isAgg142 rfl rfl (hX.1.tab) rfl) hS0 ?_
 refine y1 4 (some 15) (k.agg) rfl (fun X hX=>Af (vs:=k.cs) 48 2 Jt Kt rfl rfl (hX.2.get 1 rfl) rfl rfl) hS0 ?_
 refine y1 5 (some 16) (.tuple #[pv (some r.b), .bool true]) rfl (fun X hX=>Ot (r:=some r.b) rfl rfl rfl hX.1.map hk (by rw[hf];rfl)) hS0 ?_
 refine y0 6 (some 10) (.tuple #[pv (some r.b), .bool true]) rfl hS0 ?_
 refine y0 7 (some 17) (pv (some r.b)) rfl hS0 ?_
 refine y0 9 (some 7) (pv (some r.b)) rfl hS0 ?_
 refine y0 8 (some 18) (.bool true) rfl hS0 ?_
 refine y0 10 (some 8) (.bool true) rfl hS0 ?_
 refine wpAnyH_done (by kernel_rfl) ?_ _
 try simp only[nn]
 replace HT:=Ab hS0.1
 replace LL:=Ab hS0.2
 clear hS0
 unfold pv
 have hrb:=Ab (TT.Part.mem (T:=T) (.inr (.inr (List.mem_map.2 ⟨r,hr,rfl⟩))))
 go_wp2_with (first|go_skip|(refine rd rfl (Af (vs:=d.cs) 39 18 Zp Pm rfl rfl ((Aa LL).get 2 rfl) rfl rfl) ?_)|((refine st (vs:=d.cs) 0 39 (by rfl) rfl rfl rfl rfl (by simp[DD.cs,VV.cs,Value.oneCell']) Pm (Aa LL) rfl (by simp[Ua,Ew]) (Or.inl (Aa hrb)) ?_);intro w3 L3 hf3 hs3;replace LL:=Ab L3;have HF:=Ab hf3;clear L3 hf3 hs3;simp only[nn]))
 go_ret
 exact⟨rfl,T.upd r.b d,(Aa HT).upd hr (Aa HF) ((Aa LL).get 0 rfl),rfl,(Aa LL).fr,(fun b hb=>Or.inl (T.upd_blocks r.b d▸hb)),Or.inl ⟨r,hf,rfl⟩⟩
theorem put_good (T:TT) (k:KK) (d:DD) (w:World) (hT:T.Is w) (hU:Lib.Utf8Tabs 1 2 w) (hk:OkK k) (hl:T.last<4000000) (hTT:Hid (∀b∈T.blocks,3<=b)) (hf:T.find k=none) (hg:goodK k=true):Calls prog 75 #[.pointer (some ⟨T.t,0,none⟩),k.agg,d.agg] w fun e w'=>e= .returned (.int .i64 (0))/\ ∃T':TT,T'.Is w'/\T'.t=T.t/\Fr w w' T.blocks/\(∀b∈T'.blocks,b∈T.blocks∨w.heap.size<=b)/\((∃r,T.find k=some r/\T'=T.upd r.b d)∨(T.find k=none/\goodK k=true/\ ∃rv R,T'=T.added rv R k d)∨(T.find k=none/\goodK k=false/\T'=T)):=by
 have HU:=Ab hU
 clear hU
 have LL:=Ab (Hq.two w T.blocks k.cs d.cs 48 39 (Nat.succ_pos _) (Nat.succ_pos _))
 have HT:=Ab (hT.on (Nv w k.cs.toArray d.cs.toArray 48 39))
 have HH:=Ab hT
 clear hT
 rw[show k.agg= .agg k.cs.toArray from rfl,show d.agg= .agg d.cs.toArray from rfl]
 go_enter func75,ntmps75
 go_wp2
 refine wp_region_held_drew (P:=prog) (S:=fun X=>T.Is X/\Hq w X T.blocks [(w.heap.size,k.cs),(w.heap.size+1,d.cs)]) (by kernel_rfl) ⟨(Aa HT).drew,(Aa LL).drew⟩ (fun hS0=> ?_)
 refine y0 0 (some 11) (.pointer (some ⟨T.t,0,none⟩)) rfl hS0 ?_
 refine y0 1 (some 12) (.pointer (some ⟨T.t,0,none⟩)) rfl hS0 ?_
 refine y0 2 (some 13) (.pointer (some ⟨T.t,0,none⟩)) rfl hS0 ?_
 refine y1 3 (some 14) (.map (some T.m)) rfl (fun X hX=>Ad 142 isAgg142 rfl rfl (hX.1.tab) rfl) hS0 ?_
 refine y1 4 (some 15) (k.agg) rfl (fun X hX=>Af (vs:=k.cs) 48 2 Jt Kt rfl rfl (hX.2.get 0 rfl) rfl rfl) hS0 ?_
 refine y1 5 (some 16) (.tuple #[pv (none), .bool false]) rfl (fun X hX=>Ot (r:=none) rfl rfl rfl hX.1.map hk (by rw[hf];rfl)) hS0 ?_
 refine y0 6 (some 10) (.tuple #[pv (none), .bool false]) rfl hS0 ?_
 refine y0 7 (some 17) (pv (none)) rfl hS0 ?_
 refine y0 9 (some 7) (pv (none)) rfl hS0 ?_
 refine y0 8 (some 18) (.bool false) rfl hS0 ?_
 refine y0 10 (some 8) (.bool false) rfl hS0 ?_
 refine wpAnyH_done (by kernel_rfl) ?_ _
 try simp only[nn]
 replace HT:=Ab hS0.1
 replace LL:=Ab hS0.2
 clear hS0
 unfold pv
 go_wp2_with (first|go_skip|(refine rd rfl (Af (vs:=k.cs) 48 2 Jt Kt rfl rfl ((Aa LL).get 0 rfl) rfl rfl) ?_))
 refine(Zj k.s k.n _ (Zbk (Aa HU) (Aa LL).fr (Aa hTT))).mono ?_
 rintro _ w4 ⟨rfl,hb⟩
 rw[show (Qz k.s k.n).good=goodK k from rfl,hg]
 replace HT:=Ab ((Aa HT).on hb)
 replace LL:=Ab ((Aa LL).on hb)
 clear hb
 simp only[if_true]
 go_wp2_with (first|go_skip|(refine rd rfl (Af (vs:=k.cs) 48 2 Jt Kt rfl rfl ((Aa LL).get 0 rfl) rfl rfl) ?_)|(refine rd rfl (Af (vs:=d.cs) 39 18 Zp Pm rfl rfl ((Aa LL).get 1 rfl) rfl rfl) ?_)|(refine rd rfl (Zas rfl rfl rfl) ?_))
 refine(add34 T k d _ (Aa HT) hk hg hf hl).mono ?_
 rintro _ w5 ⟨rfl,rv,R,hT5,hF5,hR5,hg5⟩
 have HF:=Ab ((Aa LL).fr.trans hF5 (fun b hb=>Or.inl hb))
 have hs:=(Aa LL).fr.size
 have H5:=Ab hT5
 have H6:=Ab hg5
 have H7:=Ab (Nat.le_trans hs hR5)
 have H8:=Ab hs
 clear hT5 hF5 hg5 hR5 hs
 go_wp2
 go_ret
 refine⟨rfl,_,Aa H5,rfl,Aa HF, ?_,Or.inr (Or.inl ⟨hf,hg,rv,R,rfl⟩)⟩
 exact Zb2 (Aa H6) (Aa H7) (Aa H8)
theorem put_bad (T:TT) (k:KK) (d:DD) (w:World) (hT:T.Is w) (hU:Lib.Utf8Tabs 1 2 w) (hk:OkK k) (hl:T.last<4000000) (hTT:Hid (∀b∈T.blocks,3<=b)) (hf:T.find k=none) (hg:goodK k=false):Calls prog 75 #[.pointer (some ⟨T.t,0,none⟩),k.agg,d.agg] w fun e w'=>e= .returned (.int .i64 (5))/\ ∃T':TT,T'.Is w'/\T'.t=T.t/\Fr w w' T.blocks/\(∀b∈T'.blocks,b∈T.blocks∨w.heap.size<=b)/\((∃r,T.find k=some r/\T'=T.upd r.b d)∨(T.find k=none/\goodK k=true/\ ∃rv R,T'=T.added rv R k d)∨(T.find k=none/\goodK k=false/\T'=T)):=by
 have HU:=Ab hU
 clear hU
 have LL:=Ab (Hq.two w T.blocks k.cs d.cs 48 39 (Nat.succ_pos _) (Nat.succ_pos _))
 have HT:=Ab (hT.on (Nv w k.cs.toArray d.cs.toArray 48 39))
 have HH:=Ab hT
 clear hT
 rw[show k.agg= .agg k.cs.toArray from rfl,show d.agg= .agg d.cs.toArray from rfl]
 go_enter func75,ntmps75
 go_wp2
 refine wp_region_held_drew (P:=prog) (S:=fun X=>T.Is X/\Hq w X T.blocks [(w.heap.size,k.cs),(w.heap.size+1,d.cs)]) (by kernel_rfl) ⟨(Aa HT).drew,(Aa LL).drew⟩ (fun hS0=> ?_)
 refine y0 0 (some 11) (.pointer (some ⟨T.t,0,none⟩)) rfl hS0 ?_
 refine y0 1 (some 12) (.pointer (some ⟨T.t,0,none⟩)) rfl hS0 ?_
 refine y0 2 (some 13) (.pointer (some ⟨T.t,0,none⟩)) rfl hS0 ?_
 refine y1 3 (some 14) (.map (some T.m)) rfl (fun X hX=>Ad 142 isAgg142 rfl rfl (hX.1.tab) rfl) hS0 ?_
 refine y1 4 (some 15) (k.agg) rfl (fun X hX=>Af (vs:=k.cs) 48 2 Jt Kt rfl rfl (hX.2.get 0 rfl) rfl rfl) hS0 ?_
 refine y1 5 (some 16) (.tuple #[pv (none), .bool false]) rfl (fun X hX=>Ot (r:=none) rfl rfl rfl hX.1.map hk (by rw[hf];rfl)) hS0 ?_
 refine y0 6 (some 10) (.tuple #[pv (none), .bool false]) rfl hS0 ?_
 refine y0 7 (some 17) (pv (none)) rfl hS0 ?_
 refine y0 9 (some 7) (pv (none)) rfl hS0 ?_
 refine y0 8 (some 18) (.bool false) rfl hS0 ?_
 refine y0 10 (some 8) (.bool false) rfl hS0 ?_
 refine wpAnyH_done (by kernel_rfl) ?_ _
 try simp only[nn]
 replace HT:=Ab hS0.1
 replace LL:=Ab hS0.2
 clear hS0
 unfold pv
 go_wp2_with (first|go_skip|(refine rd rfl (Af (vs:=k.cs) 48 2 Jt Kt rfl rfl ((Aa LL).get 0 rfl) rfl rfl) ?_))
 refine(Zj k.s k.n _ (Zbk (Aa HU) (Aa LL).fr (Aa hTT))).mono ?_
 rintro _ w4 ⟨rfl,hb⟩
 rw[show (Qz k.s k.n).good=goodK k from rfl,hg]
 replace HT:=Ab ((Aa HT).on hb)
 replace LL:=Ab ((Aa LL).on hb)
 clear hb
 simp only[Bool.false_eq_true,if_false]
 go_wp2_with (go_skip)
 go_ret
 exact⟨rfl,T,Aa HT,rfl,(Aa LL).fr,(fun b hb=>Or.inl hb),Or.inr (Or.inr ⟨hf,hg,rfl⟩)⟩
theorem put12 (T:TT) (k:KK) (d:DD) (w:World) (hT:T.Is w) (hU:Lib.Utf8Tabs 1 2 w) (hk:OkK k) (hl:T.last<4000000) (hTT: ∀b∈T.blocks,3<=b):Calls prog 75 #[.pointer (some ⟨T.t,0,none⟩),k.agg,d.agg] w fun e w'=>e= .returned (.int .i64 (if goodK k then 0 else 5))/\ ∃T':TT,T'.Is w'/\T'.t=T.t/\Fr w w' T.blocks/\(∀b∈T'.blocks,b∈T.blocks∨w.heap.size<=b)/\((∃r,T.find k=some r/\T'=T.upd r.b d)∨(T.find k=none/\goodK k=true/\ ∃rv R,T'=T.added rv R k d)∨(T.find k=none/\goodK k=false/\T'=T)):=by
 by_cases hx:T.find k=none
 rotate_left
 ·obtain⟨r,hf⟩:=Option.ne_none_iff_exists'.1 hx
  have hg:goodK k=true:=by
   have h1:=T.find_mem hf
   rw[←h1.2.2]
   exact hT.good r (by simp[TT.live,h1.1,h1.2.1])
  rw[if_pos hg]
  have:=put_some T k d w hT hU hk hl r hf
  exact this
 ·have hf:=hx
  by_cases hg:goodK k=true
  ·rw[if_pos hg]
   have:=put_good T k d w hT hU hk hl (Ab hTT) hf hg
   exact this
  ·rw[if_neg hg]
   have:=put_bad T k d w hT hU hk hl (Ab hTT) hf (by simpa using hg)
   exact this
end
section
open Go Go.Proofs Go.Maps Go.RowKit Tryz
attribute [local go_sem] Oper.semAt_some
section
variable {F : Fence} {n : Nat} {ops : Array Oper} {rest : List Oper} {Q : Exit → Act → World → Prop} {w X : World} {a : Act} {o : Oper}
theorem inV {V:Value} (hF: ∀f,F.fn f) (hw:Region.wanted o (yielded ops a.tmps)=true) (hnd: ∀c,o.op≠ .defer c) (he:(execOp a.eval o).run prog w= .ok (.value V) X)
  (h:wpListIn F n prog ops Q rest (a.put o.dst V) X):wpListIn F n prog ops Q (o::rest) a w:=by
 refine BigFrame.wpListIn_want hw fun K hK=> ?_
 refine⟨fun f _=>hF f, ?_⟩
 have e:o.semAt F.round a.eval=execOp a.eval o:=by
  cases F.round with
  |none=>rfl
  |some l=>exact Oper.semAt_some l _ _ hnd
 rw[e,he]
 exact hK _ _ h
theorem inS (hF: ∀f,F.fn f) (hw:Region.wanted o (yielded ops a.tmps)=true) (hnd: ∀c,o.op≠ .defer c) (he:(execOp a.eval o).run prog w= .ok .skip X)
  (h:wpListIn F n prog ops Q rest (a.put o.dst undef) X):wpListIn F n prog ops Q (o::rest) a w:=by
 refine BigFrame.wpListIn_want hw fun K hK=> ?_
 refine⟨fun f _=>hF f, ?_⟩
 have e:o.semAt F.round a.eval=execOp a.eval o:=by
  cases F.round with
  |none=>rfl
  |some l=>exact Oper.semAt_some l _ _ hnd
 rw[e,he]
 exact hK _ _ h
theorem Gg {t:TypeId} {b p:Nat} {cs vs:List Value} {v:Value} {x y:Operand} (ho:o.op= .store t x y) (hx:a.eval x= .pointer (some ⟨b,p,none⟩)) (hy:a.eval y=v) (hv:v.cells.toList=vs) (h1: ∀u∈vs,u.oneCell'=true) (hi:(prog.info? t).map (·.size)=some vs.length) (hH:Holds w b cs) (hp:p+vs.length<=cs.length):
  (execOp a.eval o).run prog w= .ok .skip (w.setCells b p vs):=by
 unfold execOp
 simp only[ho,hx,hy,Instr.storeAt,Instr.sureAddr,Sem.run_bind,Sem.run_pure,Result.andThen_ok,Ev w b p t v vs hv (hH.there p vs.length hp) hi h1]
theorem Zat (ho:o.op= .alloc 48):(execOp a.eval o).run prog w= .ok (.value (.pointer (some ⟨w.heap.size,0,none⟩))) (w.alloc (Obj.cells Jo.cs.toArray 48)):=by
 unfold execOp
 simp only[ho]
 simp[go_sem,Tryz.zeroValue48]
 rfl
theorem Zdx (ho:o.op= .alloc 39):(execOp a.eval o).run prog w= .ok (.value (.pointer (some ⟨w.heap.size,0,none⟩))) (w.alloc (Obj.cells Ak.cs.toArray 39)):=by
 unfold execOp
 simp only[ho]
 simp[go_sem,Tryz.zeroValue39]
 rfl
theorem Vw {t e:TypeId} {size bytes:Nat} {z v:Value} {cs:List Value} {x:Operand} (ho:o.op= .buildSlice t 1 #[(0,x)]) (hx:a.eval x=v)
  (ht:prog.underlying t=some (.slice e)) (hi:(prog.info? e).map (fun i=>(i.zero,i.size,i.bytes))=some (some z,size,bytes)) (hs1:size<=100) (hv:v.cells.toList=cs) (hc:cs.length=size) (h0:0<size):
  (execOp a.eval o).run prog w= .ok (.value (.slice (some ⟨w.heap.size,0,none⟩) 1 1)) (w.alloc (Obj.cells cs.toArray e)):=by
 obtain⟨i0,hi,hz0,hz1,hz2⟩:=info_parts hi
 have ev:v.cells=cs.toArray:=by rw[←hv]
 have es:v.cells.size=size:=by rw[ev];simpa using hc
 have hr:=run_buildSlice w t e 1 #[(0,v)] cs.toArray i0 _ ht hi hz0 (by rw[hz1];omega) (by rw[hz1];omega) (by
  rw[hz1,←ev]
  exact ZcK size _ v (by simp) es)
 unfold execOp
 simp only[ho,List.map_toArray,List.map_cons,List.map_nil,hx]
 simp[hr]
theorem Ze4 {t e:TypeId} {size bytes k m c B base:Nat} {z v:Value} {xs news:List Value} {s x:Operand} (ho:o.op= .call {callee:= .builtin .append,args:= #[s,x],argTypes:= #[t,t]}) (hs:a.eval s=v) (hx:a.eval x= .slice (some ⟨B,0,none⟩) m c)
  (ht:prog.underlying t=some (.slice e)) (hi:(prog.info? e).map (fun i=>(i.zero,i.size,i.bytes))=some (some z,size,bytes)) (hz:z.cells.size=size) (hsz:0<size) (hown:w.ownsRow base e size v k xs) (hB:Holds w B news) (hl:news.length=m * size) (h1: ∀u∈news,u.oneCell'=true)
  (hn:k+m<=4000000) (hby:bytes<=10000) (hbase:base<=w.heap.size):
  ∃A c' w',(execOp a.eval o).run prog w= .ok (.value (.slice A (k+m) c')) w'/\w'.ownsRow base e size (.slice A (k+m) c') (k+m) (xs++news)/\w.grownBy w' v.ownBlock:=by
 obtain⟨i0,hi,hz0,hz1,hz2⟩:=info_parts hi
 obtain⟨v',w',hrun,h2,h3,h4⟩:=Kd w base t o.type e i0 _ size bytes ht hi hz0 hz1 hz2 hz hsz v k xs hown ⟨B,0,none⟩ m c news hl (fun j u hj=>by
  rw[Addr.add_mid]
  exact hB.2 j u hj) h1 (by unfold maxLen;omega) (Nat.le_trans (Nat.mul_le_mul hn hby) (by decide)) hbase
 obtain⟨A',c',rfl⟩:=Gy h2
 refine⟨A',c',w', ?_,h2,h3⟩
 simp[execOp,ho,resolve,invoke,builtin,hs,hx,hrun,Result.andThen]
end
theorem appI {F:Fence} {n:Nat} {ops:Array Oper} {rest:List Oper} {Q:Exit->Act->World->Prop} {w:World} {a:Act} {o:Oper} {t e:TypeId} {size bytes k m c B base:Nat} {z v:Value} {xs news:List Value} {s x:Operand} (hF: ∀f,F.fn f) (hw:Region.wanted o (yielded ops a.tmps)=true) (ho:o.op= .call {callee:= .builtin .append,args:= #[s,x],argTypes:= #[t,t]}) (hs:a.eval s=v) (hx:a.eval x= .slice (some ⟨B,0,none⟩) m c)
  (ht:prog.underlying t=some (.slice e)) (hi:(prog.info? e).map (fun i=>(i.zero,i.size,i.bytes))=some (some z,size,bytes)) (hz:z.cells.size=size) (hsz:0<size) (hown:w.ownsRow base e size v k xs) (hB:Holds w B news) (hl:news.length=m * size) (h1: ∀u∈news,u.oneCell'=true)
  (hn:k+m<=4000000) (hby:bytes<=10000) (hbase:base<=w.heap.size)
  (h: ∀A c' w',w'.ownsRow base e size (.slice A (k+m) c') (k+m) (xs++news)->w.grownBy w' v.ownBlock->wpListIn F n prog ops Q rest (a.put o.dst (.slice A (k+m) c')) w'):wpListIn F n prog ops Q (o::rest) a w:=by
 obtain⟨A,c',w',he,h2,h3⟩:=Ze4 ho hs hx ht hi hz hsz hown hB hl h1 hn hby hbase
 exact inV hF hw (fun c e=>by rw[ho] at e;cases e) he (h A c' w' h2 h3)
theorem Yk {W:World} {B:Nat} {t:TypeId} {v:Value} (h:Boxed W B t v):Holds W B [v]:=by
 refine⟨fun j=>by simp[World.frozen?,show W.heap[B]? =_ from h],fun j u hu=> ?_⟩
 obtain rfl:j=0:=by
  have:=(List.getElem?_eq_some_iff.1 hu).1
  simpa using this
 obtain rfl:v=u:=by simpa using hu
 exact h.cell
theorem Zbc {β:Type} (B:Nat) (t:TypeId) (v:Value):Own (fun (_:β) W=>Boxed W B t v):=by
 intro s X Y row hv hg hrow
 refine hv.kept hg (fun e'=> ?_)
 obtain⟨o,ho,hc⟩:=hrow B e'.symm
 rw[show X.heap[B]? =_ from hv] at ho;cases ho;cases hc
theorem Vs {X Y:World} {row:Option Nat} {b:Nat} {cs:List Value} (h:Holds X b cs) (hc:0<cs.length) (hg:X.grownBy Y row) (hrow: ∀r,row=some r-> ∃o:Obj,X.heap[r]? =some o/\o.isCells=false):Holds Y b cs:=by
 refine h.block (hg.block b (h.lt hc) (fun e'=> ?_))
 obtain⟨o,ho,hco⟩:=hrow b e'.symm
 have h0:=h.cell 0 (List.getElem?_eq_getElem hc)
 cases o<;>simp[World.cell?,ho] at h0<;>simp[Obj.isCells] at hco
theorem ZbC (W:World) (c0 cs:List Value) (t:TypeId) (hc:cs.length<=c0.length) (he:Bw c0 0 cs=cs) (h0:0<c0.length):Below W.heap.size W ((W.alloc (Obj.cells c0.toArray t)).setCells W.heap.size 0 cs)/\Holds ((W.alloc (Obj.cells c0.toArray t)).setCells W.heap.size 0 cs) W.heap.size cs/\((W.alloc (Obj.cells c0.toArray t)).setCells W.heap.size 0 cs).heap.size=W.heap.size+1:=by
 refine⟨Mx (Nat.le_refl _) _ _ _ ((Below.refl _ _).alloc (Nat.le_refl _) _), ?_,by rw[Gq];simp⟩
 have:=(Holds.new W c0 t).put 0 cs (by omega)
 rw[he] at this
 exact this
theorem kb_t {n₀ Bn:Nat} {A B C:World} (h:Kb n₀ Bn A B) (k:Kb n₀ Bn B C):Kb n₀ Bn A C:=⟨h.1.trans k.1,k.2.trans h.2⟩
theorem kb_b {n₀ Bn:Nat} {w:World} (hn:n₀<=w.heap.size) (hB:Bn<w.heap.size) (W:World) (l:Nat) (o o':Obj) (hl:w.heap.size<=l) (h:W.heap[l]? =some o) (h1:o.isCells=false) (h2:o.isWalk=false):Kb n₀ Bn W (W.putObj l o'):=
 ⟨belowK_b hn W l o o' hl h h1 h2,by
  show (W.heap.setIfInBounds l o')[Bn]? =_
  rw[Array.getElem?_setIfInBounds_ne (by omega)]⟩
theorem siz61:(prog.info? 52).map (·.size)=some 1:=by kernel_rfl
theorem Qr {w w':World} {base e size n:Nat} {v:Value} {xs:List Value} (h:w.ownsRow base e size v n xs) (he: ∀g,v.ownBlock=some g->w'.heap[g]? =w.heap[g]?):w'.ownsRow base e size v n xs:=by
 obtain⟨h1,h2⟩:=h
 refine⟨h1, ?_⟩
 rcases h2 with h2|⟨g,cap,cur,rfl,h3,h4,h5⟩
 ·exact .inl h2
 ·exact .inr ⟨g,cap,cur,rfl,h3,(he g rfl).trans h4,h5⟩
theorem ZbM:(prog.info? 69).map (fun i=>(i.zero,i.size,i.bytes))=some (some (.agg (Jo.cs++Ak.cs).toArray),20,192):=by kernel_rfl
def Mk (l:List (KK×DD)):List Value:=l.flatMap (fun x=>x.1.cs++x.2.cs)
theorem ZbS (l m:List (KK×DD)):Mk (l++m)=Mk l++Mk m:=by unfold Mk;rw[List.flatMap_append]
theorem Ze1 (x:KK×DD):Mk [x]=x.1.cs++x.2.cs:=by simp[Mk]
theorem Zaw (T:TT) (n:Nat) (hn:1<=n) (Bn n₀:Nat) (w:World) (hT:T.Is w) (hlast:T.last<4000000) (hlt: ∀b∈T.blocks,b<n₀) (hBs:Bn<w.heap.size) (hBn:w.cell? ⟨Bn,0,none⟩=some (.pointer (some ⟨T.t,0,none⟩))) (hn₀:n₀<=w.heap.size):
  SeqStopsK Fence.wide n prog 80 #[.pointer (some ⟨Bn,0,none⟩)] encP (Kb n₀ Bn) (fun ys=>ys=T.live.map RR.pr) (fun pre=>pre<+:T.live.map RR.pr) T.live.length w:=by
 intro l J Jx W hW hJ hJx hY h0
 exact each_in n hn l Bn n₀ T J Jx W hJ (hT.on hW) hlast hlt hY ((hW.cell (p:=⟨Bn,0,none⟩) hBs).trans hBn) h0 (by have:=hW.size;omega)
theorem props27 (T:TT) (w:World) (hT:T.Is w) (hlast:T.last<4000000) (hl:T.live.length<=800000):Calls prog 38 #[.pointer (some ⟨T.t,0,none⟩)] w fun e w'=> ∃v,e= .returned v/\w'.ownsRow w.heap.size 69 20 v T.live.length (Mk (T.live.map RR.pr))/\Below w.heap.size w w':=by
 refine(callsIn_wide (n:=4)).1 ?_
 have HL:=Ab (len30 T w hT)
 have HE:=Ab (fun X=>each41 T X)
 have HT:=Ab hT
 clear hT
 refine callsIn_of_wp_marks func38 rfl trivial ?_ rfl
 simp only[ntmps38,List.size_toArray,List.length_cons,List.length_nil,Nat.reduceAdd,Nat.reduceSub,Array.replicate_succ,Array.replicate_zero,List.push_toArray,List.append_toArray,List.nil_append,List.cons_append]
 gi_wp2_with fail
 refine⟨trivial,(callsIn_wide.2 (Aa HL)).mono ?_⟩
 rintro e w1 ⟨rfl,rfl⟩
 obtain⟨i0,hi,hz0,hz1,hz2⟩:=info_parts ZbM
 obtain⟨wm,hrun,hm1,hm2⟩:=run_makeSlice_owned (P:=prog) w1 w1.heap.size 52 69 i0 _ 20 underlying52 hi hz0 hz1 .i64 .i64 T.live.length (by omega) (by rw[hz2];omega) (by unfold maxLen;omega) (Nat.le_refl _)
 gi_wp2_with fail
 refine⟨trivial,(callsIn_wide.2 ((Aa HE) _)).mono ?_⟩
 rintro e w2 ⟨rfl,rfl⟩
 have hms:=hm2.size
 have hbm:Below w1.heap.size w1 wm:=⟨hm2.os,hm2.tape,hm2.output,hm2.size,fun k hk=>hm2.block k hk (by simp)⟩
 have b3:Boxed (wm.alloc (.cells #[.slice (some ⟨w1.heap.size,0,none⟩) 0 T.live.length] 52)) wm.heap.size 52 (.slice (some ⟨w1.heap.size,0,none⟩) 0 T.live.length):=Boxed.new wm 52 _
 have bn:Boxed ((wm.alloc (.cells #[.slice (some ⟨w1.heap.size,0,none⟩) 0 T.live.length] 52)).alloc (.cells #[.pointer (some ⟨T.t,0,none⟩)] 97)) (wm.heap.size+1) 97 (.pointer (some ⟨T.t,0,none⟩)):=by
  have:=Boxed.new (wm.alloc (.cells #[.slice (some ⟨w1.heap.size,0,none⟩) 0 T.live.length] 52)) 97 (.pointer (some ⟨T.t,0,none⟩))
  rwa [World.size_alloc] at this
 have hB0:Below w1.heap.size w1 ((wm.alloc (.cells #[.slice (some ⟨w1.heap.size,0,none⟩) 0 T.live.length] 52)).alloc (.cells #[.pointer (some ⟨T.t,0,none⟩)] 97)):=(hbm.alloc hms _).alloc (by simp;omega) _
 have hT3:=(Aa HT).on hB0
 have hlt3:=(Aa HT).lt
 have HTT:=HT
 clear HL HE
 gi_wp2
 try simp only[World.size_alloc]
 refine wpIn_rangeFunc_ownH (α:=KK×DD) rfl (by omega) (gf:=80) (lb:= #[.pointer (some ⟨wm.heap.size+1,0,none⟩)]) rfl trivial (enters_of func80 (by kernel_rfl) rfl)
  (Zaw T 3 (by omega) (wm.heap.size+1) w1.heap.size _ hT3 hlast hlt3 (by simp) bn.cell (by simp;omega)) kb_t (kb_b (by simp;omega) (by simp)) (Below.refl _ _) (fun _=>rfl)
  (fun pre W=>(∃v,Boxed W wm.heap.size 52 v/\W.ownsRow w1.heap.size 69 20 v pre.length (Mk pre)/\True)/\Boxed W (wm.heap.size+1) 97 (.pointer (some ⟨T.t,0,none⟩))/\Below w1.heap.size w1 W)
  (fun _ _ _=>False)
  (OwnFrom.and (Own.from (holdsRow_own w1.heap.size wm.heap.size 52 69 20 (fun pre:List (KK×DD)=>pre.length) (fun pre=>Mk pre) (fun _ _=>True)) _) (OwnFrom.and (Own.from (Zbc _ _ _) _) (ownFrom_below (Nat.le_refl _) (by simp;omega))))
  (fun _ _ _ _ _ hs _ _=>hs)
  ⟨⟨_,b3.alloc _,(hm1.alloc _).alloc _,trivial⟩,bn,hB0⟩
  (fun x a' W=> ∃Bk Bd,a'={tmps:= #[.pointer (some ⟨T.t,0,none⟩),undef, .slice none 0 0, .pointer (some ⟨wm.heap.size,0,none⟩), .pointer (some ⟨Bk,0,none⟩), .pointer (some ⟨Bd,0,none⟩), .pointer (some ⟨T.t,0,none⟩), .int .i64 T.live.length, .slice (some ⟨w1.heap.size,0,none⟩) 0 T.live.length, .pointer (some ⟨T.t,0,none⟩), .func (.func 80) #[] #[.pointer (some ⟨wm.heap.size+1,0,none⟩)],x.1.agg,x.2.agg,undef,undef,undef,undef,undef,undef,undef],defers:= []}/\Holds W Bk x.1.cs/\Holds W Bd x.2.cs)
  (fun x a' _ X Y row hs hg hr=>by
   obtain⟨Bk,Bd,h1,h2,h3⟩:=hs
   exact⟨Bk,Bd,h1,Vs h2 (Nat.succ_pos _) hg (fun r e=>(hr r e).2),Vs h3 (Nat.succ_pos _) hg (fun r e=>(hr r e).2)⟩)
  ?assign ?body ?done ?stop
 case assign=>
  intro l pre x W K hI hK
  simp only[encP]
  obtain⟨p1,p2,p3⟩:=ZbC W Jo.cs x.1.cs 48 (Nat.le_refl _) rfl (Nat.succ_pos _)
  obtain⟨X1,hX1⟩: ∃X1,X1=(W.alloc (Obj.cells Jo.cs.toArray 48)).setCells W.heap.size 0 x.1.cs:=⟨_,rfl⟩
  rw[←hX1] at p1 p2 p3
  obtain⟨q1,q2,q3⟩:=ZbC X1 Ak.cs x.2.cs 39 (Nat.le_refl _) rfl (Nat.succ_pos _)
  obtain⟨X2,hX2⟩: ∃X2,X2=(X1.alloc (Obj.cells Ak.cs.toArray 39)).setCells X1.heap.size 0 x.2.cs:=⟨_,rfl⟩
  rw[←hX2] at q1 q2 q3
  have HK:=Ab (hK)
  have hb2:Below W.heap.size W X2:=p1.trans (q1.mono (by omega))
  have hg2:W.grownBy X2 none:=Ez hb2
  have hI2:Hid _:=Ab hI
  clear hK hI
  have ht:((#[11,12]:Array Tmp).zip #[x.1.agg,x.2.agg]).foldl (fun t x=>t.setIfInBounds x.1 x.2) (#[.pointer (some ⟨T.t,0,none⟩),undef, .slice none 0 0, .pointer (some ⟨wm.heap.size,0,none⟩),undef,undef, .pointer (some ⟨T.t,0,none⟩), .int .i64 T.live.length, .slice (some ⟨w1.heap.size,0,none⟩) 0 T.live.length, .pointer (some ⟨T.t,0,none⟩), .func (.func 80) #[] #[.pointer (some ⟨wm.heap.size+1,0,none⟩)],undef,undef,undef,undef,undef,undef,undef,undef,undef]:Array Value)= #[.pointer (some ⟨T.t,0,none⟩),undef, .slice none 0 0, .pointer (some ⟨wm.heap.size,0,none⟩),undef,undef, .pointer (some ⟨T.t,0,none⟩), .int .i64 T.live.length, .slice (some ⟨w1.heap.size,0,none⟩) 0 T.live.length, .pointer (some ⟨T.t,0,none⟩), .func (.func 80) #[] #[.pointer (some ⟨wm.heap.size+1,0,none⟩)],x.1.agg,x.2.agg,undef,undef,undef,undef,undef,undef,undef]:=by simp
  rw[ht]
  gi_wp2_with (first|go_skip|((refine inV (fun _=>trivial) (by rfl) (by intro c h;cases h) (Zat rfl) ?_);simp only[nn])|((refine inS (fun _=>trivial) (by rfl) (by intro c h;cases h) (Gg (t:=48) (vs:=x.1.cs) rfl rfl rfl rfl (by simp[KK.cs,Value.oneCell']) Kt (Holds.new W Jo.cs 48) (Nat.le_refl _)) ?_);rw[←hX1];simp only[nn])|((refine inV (fun _=>trivial) (by rfl) (by intro c h;cases h) (Zdx rfl) ?_);simp only[nn])|((refine inS (fun _=>trivial) (by rfl) (by intro c h;cases h) (Gg (t:=39) (vs:=x.2.cs) rfl rfl rfl rfl (by simp[DD.cs,VV.cs,Value.oneCell']) Pm (Holds.new X1 Ak.cs 39) (Nat.le_refl _)) ?_);rw[←hX2];simp only[nn]))
  obtain⟨⟨v,hv,hrow, -⟩,hbn,hB⟩:=Aa hI2
  have hsz:=hB.size
  refine(Aa HK) _ X2 (KeepsFrom.of_grownBy hg2 (fun j e=>by cases e)) ⟨hb2.mono hsz,hb2.block _ hbn.lt⟩ ⟨⟨v,hv.kept hg2 (by simp),Qr hrow (fun g hg=>hb2.block g (World.ownsRow.lt hrow g hg).2),trivial⟩,hbn.kept hg2 (by simp),hB.trans (hb2.mono hsz)⟩ ⟨W.heap.size,X1.heap.size,rfl,p2.block (q1.block _ (by omega)),q2⟩
 case body=>
  rintro l pre x a' W hl2 hloop ⟨⟨v,hv,hrow, -⟩,hbn,hB⟩ ⟨Bk,Bd,rfl,hk,hd⟩ hlen
  have Hk:=Ab hk
  have Hd:=Ab hd
  have Hv:=Ab hv
  have Hrow:=Ab hrow
  have Hbn:=Ab hbn
  have HB:=Ab hB
  clear hk hd hv hrow hbn hB hloop
  refine wpIn_block ?_
  refine wpIn_region_lit ?_
  refine inV (fun _=>trivial) (by rfl) (by intro c h;cases h) (Jz (B:=wm.heap.size) (p:=0) (v:=v) 52 isAgg52 rfl rfl (Aa Hv).cell) ?_
  simp only[nn]
  refine inV (fun _=>trivial) (by rfl) (by intro c h;cases h) (Af (B:=Bk) (p:=0) (cs:=x.1.cs) (vs:=x.1.cs) 48 2 Jt Kt rfl rfl (Aa Hk) rfl rfl) ?_
  simp only[nn]
  refine inV (fun _=>trivial) (by rfl) (by intro c h;cases h) (Af (B:=Bd) (p:=0) (cs:=x.2.cs) (vs:=x.2.cs) 39 18 Zp Pm rfl rfl (Aa Hd) rfl rfl) ?_
  simp only[nn]
  refine inV (fun _=>trivial) (by rfl) (by intro c h;cases h) (Zas (k:=x.1) (d:=x.2) rfl rfl rfl) ?_
  simp only[nn]
  refine inV (fun _=>trivial) (by rfl) (by intro c h;cases h) (Vw (t:=52) (e:=69) (v:= .agg (x.1.cs++x.2.cs).toArray) (cs:=x.1.cs++x.2.cs) rfl rfl underlying52 ZbM (by decide) rfl rfl (by decide)) ?_
  simp only[nn]
  refine appI (v:=v) (B:=W.heap.size) (m:=1) (c:=1) (fun _=>trivial) (by rfl) rfl rfl rfl underlying52 ZbM rfl (by decide) ((Aa Hrow).alloc _) (Holds.new W (x.1.cs++x.2.cs) 69) rfl (by simp[KK.cs,DD.cs,VV.cs,Value.oneCell']) (by omega) (by decide) (by have:=(Aa HB).size;simp;omega) ?_
  intro A c' w4 ho4 hg4
  have HA:=Ab ((Aa Hv).appended (by decide) (Aa Hrow) (Aa HB).size hms ho4 hg4)
  have HG:=Ab hg4
  clear ho4 hg4
  simp only[nn]
  refine inS (fun _=>trivial) (by rfl) (by intro c h;cases h) (Gg (t:=52) (b:=wm.heap.size) (p:=0) (cs:= [v]) (vs:= [.slice A (pre.length+1) c']) rfl rfl rfl rfl (by simp[Value.oneCell']) siz61 (Yk (Aa HA).1) (Nat.le_refl _)) ?_
  simp only[nn]
  refine wpListIn_nil ?_
  obtain⟨h1,h2,h3,h4,h5⟩:=Aa HA
  have hbn:=Aa Hbn
  have hB:=Aa HB
  have hne:some (wm.heap.size+1)≠v.ownBlock:=hbn.not_row (by decide) (Aa Hrow)
  have eb:(w4.setCell ⟨wm.heap.size,0,none⟩ (Value.slice A (pre.length+1) c')).heap[wm.heap.size+1]? =W.heap[wm.heap.size+1]? :=by
   rw[Below.heap_setCell _ _ _ _ (by show wm.heap.size+1≠wm.heap.size;omega),(Aa HG).block _ (by have:=hbn.lt;simp;omega) hne,Below.heap_alloc _ _ _ hbn.lt]
  refine⟨h4.from _,⟨h5,eb⟩,⟨⟨_,h2, ?_,trivial⟩,eb.trans hbn,hB.trans h5⟩⟩
  rw[ZbS,Ze1,List.length_append]
  exact h3
 case done=>
  rintro D ys W hD rfl ⟨⟨v,hv,hrow, -⟩,hbn,hB⟩ hK
  have hc:=hv.cell
  gi_wp2
  refine⟨by simp, .inl ⟨_,_,rfl,run_takeDeferred hK, ?_⟩⟩
  refine⟨_,results_tmp rfl _ _ _,_,rfl, ?_,hB.trans (belowK_b (w:=w1) (Nat.le_refl _) W D _ _ (by simp at hD;omega) hK rfl rfl)⟩
  have:=ownsRow_putObj hrow (.deferred none) hK rfl
  simpa using this
 case stop=>
  rintro D c pre W _ _ h _
  exact h.elim
end
section
open Go Go.Proofs Go.Maps Go.RowKit
attribute [local go_sem] Oper.semAt_some
theorem siz64:(Tryz.prog.info? 40).map (·.size)=some 1:=by kernel_rfl
