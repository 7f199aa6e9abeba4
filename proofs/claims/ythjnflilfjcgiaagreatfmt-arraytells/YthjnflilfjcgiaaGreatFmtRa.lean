import Derived.Test.YthjnflilfjcgiaaGreatFmtQy
set_option linter.all false
namespace Go.Proofs.YthjnflilfjcgiaaGreatFmt
set_option maxRecDepth 100000
set_option maxHeartbeats 0
section
open Go Go.Proofs Go.Maps Go.RowKit Tryz
theorem isNaN82 (x:Nat) (w:World):Calls prog 128 #[.int .u64 x] w fun e w'=>e= .returned (.bool false)/\w'=w:=by
 go_enter func128,ntmps128
 go_wp2
 go_ret
 simp
theorem cmp71 (x y:Nat) (w:World):Calls prog 126 #[.int .u64 x, .int .u64 y] w fun e w'=>e= .returned (.int .i64 (if x<y then -1 else if y<x then 1 else 0))/\w'=w:=by
 have H1:=hide (fun z:Nat=>isNaN82 z w)
 by_cases h1:x<y
 ·rw[if_pos h1]
  have h1':(x:Int)<(y:Int):=by omega
  go_enter func126,ntmps126
  go_wp2_with fail
  refine((uh H1) x).mono ?_
  rintro _ _ ⟨rfl,rfl⟩
  go_wp2_with fail
  refine((uh H1) y).mono ?_
  rintro _ _ ⟨rfl,rfl⟩
  go_wp2
  go_ret
  exact⟨rfl,rfl⟩
 ·rw[if_neg h1]
  have h1': ¬(x:Int)<(y:Int):=by omega
  by_cases h2:y<x
  ·rw[if_pos h2]
   have h2':(y:Int)<(x:Int):=by omega
   go_enter func126,ntmps126
   go_wp2_with fail
   refine((uh H1) x).mono ?_
   rintro _ _ ⟨rfl,rfl⟩
   go_wp2_with fail
   refine((uh H1) y).mono ?_
   rintro _ _ ⟨rfl,rfl⟩
   go_wp2
   go_ret
   exact⟨rfl,rfl⟩
  ·rw[if_neg h2]
   have h2': ¬(y:Int)<(x:Int):=by omega
   go_enter func126,ntmps126
   go_wp2_with fail
   refine((uh H1) x).mono ?_
   rintro _ _ ⟨rfl,rfl⟩
   go_wp2_with fail
   refine((uh H1) y).mono ?_
   rintro _ _ ⟨rfl,rfl⟩
   go_wp2
   go_ret
   exact⟨rfl,rfl⟩
def cu (x y:Nat):Int:=if x<y then -1 else if y<x then 1 else 0
theorem byNumber58 (r:RR) (y:Nat) (w:World) (h:Holds w r.b r.cs):Calls prog 123 #[.pointer (some ⟨r.b,0,none⟩), .int .u64 y] w fun e w'=>e= .returned (.int .i64 (cu r.n y))/\w'=w:=by
 have H1:Hid (Calls prog 126 #[.int .u64 r.n, .int .u64 y] w fun e w'=>e= .returned (.int .i64 (cu r.n y))/\w'=w):=hide (cmp71 r.n y w)
 generalize cu r.n y=c at *
 have HR:=hide h
 clear h
 go_enter func123,ntmps123
 go_wp2_with (first|go_skip|((refine rd rfl (ex_load1 46 isAgg46 rfl rfl (uh HR) rfl) ?_);simp only[nn]))
 refine(uh H1).mono ?_
 rintro _ _ ⟨rfl,rfl⟩
 go_wp2
 go_ret
 exact⟨rfl,rfl⟩
theorem ex_loadC {o:Oper} {a:Act} {W:World} {x:Operand} {B p:Nat} {v:Value} (t:TypeId) (hna: ∀w,(isAgg t).run prog w= .ok false w) (ho:o.op= .load t x) (hx:a.eval x= .pointer (some ⟨B,p,none⟩)) (h0:W.cell? ⟨B,p,none⟩=some v):(execOp a.eval o).run prog W= .ok (.value v) W:=by
 unfold execOp
 simp only[ho,hx]
 simp[go_sem,h0,hna]
theorem index70 (g off n cap j:Nat) (hj:j<n) (w:World):(Instr.indexAt 168 (.slice (some ⟨g,off,none⟩) n cap) (.int .i64 j)).run prog w= .ok (.pointer (some ⟨g,off+j,none⟩)) w:=by
 rw[run_indexAt_slice (h:=by kernel_rfl),if_pos ⟨by omega,by omega⟩]
 have e:(sizeOf (prog.elem 168)).run prog w= .ok 1 w:=by kernel_rfl
 rw[e]
 have e2:(Addr.add ⟨g,off,none⟩ ((j:Int).toNat * 1))=⟨g,off+j,none⟩:=by
  rw[Addr.add_mid]
  simp
 show Result.ok (Value.pointer (some (Addr.add ⟨g,off,none⟩ ((j:Int).toNat * 1)))) w=_
 rw[e2]
theorem ex_index70 {o:Oper} {a:Act} {w:World} {x ix:Operand} {g off n cap:Nat} (j:Nat) (ho:o.op= .indexAddr 168 x ix) (hx:a.eval x= .slice (some ⟨g,off,none⟩) n cap) (hix:a.eval ix= .int .i64 j) (hj:j<n):(execOp a.eval o).run prog w= .ok (.value (.pointer (some ⟨g,off+j,none⟩))) w:=by
 unfold execOp
 simp only[ho,hx,hix]
 have:=index70 g off n cap j hj w
 simp[this]
theorem OwnP.cell {W:World} {g cap n:Nat} {l:List Nat} (h:OwnP W (.slice (some ⟨g,0,none⟩) n cap) l) (j:Nat) (hj:j<l.length):W.cell? ⟨g,j,none⟩=some (.pointer (some ⟨l[j],0,none⟩)):=by
 rcases h.2 with ⟨h1, -⟩|⟨g',cap',cur,h1,h2,h3,h4,h5,h6,h7⟩
 ·cases h1
 ·cases h1
  have e:cur.toList[j]? =some (.pointer (some ⟨l[j],0,none⟩)):=by
   have h8:(cur.toList.take (l.length * 1))[j]? =(ptrs l)[j]? :=by rw[h7]
   rw[List.getElem?_take,if_pos (by omega)] at h8
   rw[h8]
   simp[ptrs,hj]
  have e2:cur[j]? =some (.pointer (some ⟨l[j],0,none⟩)):=by simpa using e
  simp[World.cell?,h3,e2]
theorem bs_rows (g cap y:Nat) (l:List RR) (w:World) (ho:OwnP w (.slice (some ⟨g,0,none⟩) l.length cap) (l.map (·.b))) (hr: ∀r∈l,Holds w r.b r.cs) (hs:l.Pairwise (fun a b=>a.n<b.n)) (hl:l.length<=4000000):
  Calls prog 122 #[.slice (some ⟨g,0,none⟩) l.length cap, .int .u64 y, .func (.func 123) #[] #[]] w fun e w'=> ∃(p:Nat) (f:Value),e= .returned (.tuple #[.int .i64 p,f])/\p<=l.length/\(∀t (h:t<l.length),t<p->l[t].n<y)/\(∀t (h:t<l.length),p<=t->y<=l[t].n)/\w'=w:=by
 have HO:=hide ho
 have HR:=hide hr
 have HS:=hide hs
 clear ho hr hs
 go_enter func122,ntmps122
 go_wp2_with fail
 go_loopg [9,10,11] l.length (fun gm s9 s10 s11 wr=> ∃i j:Nat,s9= .int .i64 i/\s10= .int .i64 j/\i<=j/\j<=l.length/\j - i<=gm/\Hid ((∀t (h:t<l.length),t<i->l[t].n<y)/\(∀t (h:t<l.length),j<=t->y<=l[t].n))/\wr=w)
 case atStart=>exact⟨0,l.length,rfl,rfl,by omega,by omega,by omega,hide ⟨fun t h h2=>by omega,fun t h h2=>by omega⟩,rfl⟩
 case round=>
  obtain⟨i,j,rfl,rfl,hij,hjl,hg,H3,rfl⟩:=hrel
  by_cases hlt:i<j
  ·have hlz:(i:Int)<j:=by omega
   have hm:(i+j) / 2<l.length:=by omega
   obtain⟨r,hr⟩: ∃r,r=l[(i+j) / 2]:=⟨_,rfl⟩
   have HC:Hid (wr.cell? ⟨g,(i+j) / 2,none⟩=some (.pointer (some ⟨r.b,0,none⟩))):=hide (by
    have:=(uh HO).cell ((i+j) / 2) (by simpa using hm)
    rw[this,hr];simp)
   have HB:=hide (byNumber58 r y wr (uh HR r (by rw[hr];exact List.getElem_mem hm)))
   by_cases hc:r.n<y
   ·have ec:cu r.n y= -1:=by unfold cu;rw[if_pos hc]
    rw[ec] at HB
    have HQ:Hid ((∀t (h:t<l.length),t<(i+j) / 2+1->l[t].n<y)/\(∀t (h:t<l.length),j<=t->y<=l[t].n)):=hide ⟨fun t h h2=>(by
     rcases Nat.lt_or_ge t ((i+j) / 2) with h3|h3
     ·have h4:=(List.pairwise_iff_getElem.1 (uh HS)) t ((i+j) / 2) h hm h3
      rw[←hr] at h4
      omega
     ·have h4:t=(i+j) / 2:=by omega
      subst h4
      rw[←hr];exact hc),(uh H3).2⟩
    clear hr hc ec H3
    go_wp2_with (first|go_skip|((refine rd rfl (ex_loadC 171 isAgg171 rfl rfl (uh HC)) ?_);simp only[nn]))
    refine(uh HB).mono ?_
    rintro _ _ ⟨rfl,rfl⟩
    go_wp2
    go_roundg (j - ((i+j) / 2+1))
    case measure=>omega
    case rel=>exact⟨(i+j) / 2+1,j,by first|rfl|(congr 1;omega),rfl,by omega,hjl,by omega,HQ,rfl⟩
   ·have ec: ¬cu r.n y<0:=by unfold cu;rw[if_neg hc];split<;>omega
    generalize cu r.n y=c at *
    have HQ:Hid ((∀t (h:t<l.length),t<i->l[t].n<y)/\(∀t (h:t<l.length),(i+j) / 2<=t->y<=l[t].n)):=hide ⟨(uh H3).1,fun t h h2=>(by
     rcases Nat.lt_or_ge ((i+j) / 2) t with h3|h3
     ·have h4:=(List.pairwise_iff_getElem.1 (uh HS)) ((i+j) / 2) t hm h h3
      rw[←hr] at h4
      omega
     ·have h4:t=(i+j) / 2:=by omega
      subst h4
      rw[←hr];omega)⟩
    clear hr hc H3
    go_wp2_with (first|go_skip|((refine rd rfl (ex_loadC 171 isAgg171 rfl rfl (uh HC)) ?_);simp only[nn]))
    refine(uh HB).mono ?_
    rintro _ _ ⟨rfl,rfl⟩
    go_wp2
    go_roundg ((i+j) / 2 - i)
    case measure=>omega
    case rel=>exact⟨i,(i+j) / 2,rfl,by first|rfl|(congr 1;omega),by omega,by omega,by omega,HQ,rfl⟩
  ·have hlz: ¬(i:Int)<j:=by omega
   have hij2:i=j:=by omega
   subst hij2
   by_cases he:i<l.length
   ·have hez:(i:Int)<l.length:=by omega
    obtain⟨r,hr⟩: ∃r,r=l[i]:=⟨_,rfl⟩
    have HC:Hid (wr.cell? ⟨g,i,none⟩=some (.pointer (some ⟨r.b,0,none⟩))):=hide (by
     have:=(uh HO).cell i (by simpa using he)
     rw[this,hr];simp)
    have HB:=hide (byNumber58 r y wr (uh HR r (by rw[hr];exact List.getElem_mem he)))
    generalize cu r.n y=c at *
    clear hr
    go_wp2_with (first|go_skip|((refine rd rfl (ex_loadC 171 isAgg171 rfl rfl (uh HC)) ?_);simp only[nn]))
    refine(uh HB).mono ?_
    rintro _ _ ⟨rfl,rfl⟩
    go_wp2
    go_ret2
    exact⟨i,_,rfl,hjl,(uh H3).1,(uh H3).2,rfl⟩
   ·have hez: ¬(i:Int)<l.length:=by omega
    go_wp2
    go_ret2
    exact⟨i,⟨_,rfl⟩,hjl,(uh H3).1,(uh H3).2,rfl⟩
theorem bs_nil (y:Nat) (A:Option Addr) (cap:Nat) (w:World):
  Calls prog 122 #[.slice A 0 cap, .int .u64 y, .func (.func 123) #[] #[]] w fun e w'=> ∃(p:Nat) (f:Value),e= .returned (.tuple #[.int .i64 p,f])/\p=0/\w'=w:=by
 go_enter func122,ntmps122
 go_wp2_with fail
 go_loopg [9,10,11] 0 (fun gm s9 s10 s11 wr=>s9= .int .i64 0/\s10= .int .i64 0/\wr=w)
 case atStart=>exact⟨rfl,rfl,rfl⟩
 case round=>
  obtain⟨rfl,rfl,rfl⟩:=hrel
  go_wp2
  go_ret2
  exact⟨0,_,rfl,rfl,rfl⟩
