import Derived.Test.YtieahhciibdnaaaGreatDoorQo
import Derived.RangeFuncKeeps
import Derived.BigFrameIn
set_option linter.all false
namespace Go.Proofs.YtieahhciibdnaaaGreatDoor
set_option maxRecDepth 100000
set_option maxHeartbeats 0
section
open Go Go.Proofs Go.Maps Go.RowKit Tryz
theorem Gx {o:Oper} {a:Act} {W:World} {x:Operand} {B p:Nat} {v:Value} (t:TypeId) (hna: ∀w,(isAgg t).run prog w= .ok false w) (ho:o.op= .load t x) (hx:a.eval x= .pointer (some ⟨B,p,none⟩)) (h0:W.cell? ⟨B,p,none⟩=some v):(execOp a.eval o).run prog W= .ok (.value v) W:=by
 unfold execOp
 simp only[ho,hx]
 simp[go_sem,h0,hna]
theorem index70 (g off n cap j:Nat) (hj:j<n) (w:World):(Instr.indexAt 163 (.slice (some ⟨g,off,none⟩) n cap) (.int .i64 j)).run prog w= .ok (.pointer (some ⟨g,off+j,none⟩)) w:=by
 rw[run_indexAt_slice (h:=by kernel_rfl),if_pos ⟨by omega,by omega⟩]
 have e:(sizeOf (prog.elem 163)).run prog w= .ok 1 w:=by kernel_rfl
 rw[e]
 have e2:(Addr.add ⟨g,off,none⟩ ((j:Int).toNat * 1))=⟨g,off+j,none⟩:=by
  rw[Addr.add_mid]
  simp
 show Result.ok (Value.pointer (some (Addr.add ⟨g,off,none⟩ ((j:Int).toNat * 1)))) w=_
 rw[e2]
theorem Pa {o:Oper} {a:Act} {w:World} {x ix:Operand} {g off n cap:Nat} (j:Nat) (ho:o.op= .indexAddr 163 x ix) (hx:a.eval x= .slice (some ⟨g,off,none⟩) n cap) (hix:a.eval ix= .int .i64 j) (hj:j<n):(execOp a.eval o).run prog w= .ok (.value (.pointer (some ⟨g,off+j,none⟩))) w:=by
 unfold execOp
 simp only[ho,hx,hix]
 have:=index70 g off n cap j hj w
 simp[this]
theorem OwnP.cell {W:World} {g cap n:Nat} {l:List Nat} (h:OwnP W (.slice (some ⟨g,0,none⟩) n cap) l) (j:Nat) (hj:j<l.length):W.cell? ⟨g,j,none⟩=some (.pointer (some ⟨l[j],0,none⟩)):=by
 rcases h.2 with ⟨h1, -⟩|⟨g',cap',cur,h1,h2,h3,h4,h5,h6,h7⟩
 ·cases h1
 ·cases h1
  have e:cur.toList[j]? =some (.pointer (some ⟨l[j],0,none⟩)):=by
   have h8:(cur.toList.take (l.length * 1))[j]? =(My l)[j]? :=by rw[h7]
   rw[List.getElem?_take,if_pos (by omega)] at h8
   rw[h8]
   simp[My,hj]
  have e2:cur[j]? =some (.pointer (some ⟨l[j],0,none⟩)):=by simpa using e
  simp[World.cell?,h3,e2]
theorem bs_rows (g cap y:Nat) (l:List RR) (w:World) (ho:OwnP w (.slice (some ⟨g,0,none⟩) l.length cap) (l.map (·.b))) (hr: ∀r∈l,Holds w r.b r.cs) (hs:l.Pairwise (fun a b=>a.n<b.n)) (hl:l.length<=4000000):
  Calls prog 186 #[.slice (some ⟨g,0,none⟩) l.length cap, .int .u64 y, .func (.func 187) #[] #[]] w fun e w'=> ∃(p:Nat) (f:Value),e= .returned (.tuple #[.int .i64 p,f])/\p<=l.length/\(∀t (h:t<l.length),t<p->l[t].n<y)/\(∀t (h:t<l.length),p<=t->y<=l[t].n)/\w'=w:=by
 have HO:=Ab ho
 have HR:=Ab hr
 have HS:=Ab hs
 clear ho hr hs
 go_enter func186,ntmps186
 go_wp2_with fail
 go_loopg [9,10,11] l.length (fun gm s9 s10 s11 wr=> ∃i j:Nat,s9= .int .i64 i/\s10= .int .i64 j/\i<=j/\j<=l.length/\j - i<=gm/\Hid ((∀t (h:t<l.length),t<i->l[t].n<y)/\(∀t (h:t<l.length),j<=t->y<=l[t].n))/\wr=w)
 case atStart=>exact⟨0,l.length,rfl,rfl,by omega,by omega,by omega,Ab ⟨fun t h h2=>by omega,fun t h h2=>by omega⟩,rfl⟩
 case round=>
  obtain⟨i,j,rfl,rfl,hij,hjl,hg,H3,rfl⟩:=hrel
  by_cases hlt:i<j
  ·have hlz:(i:Int)<j:=by omega
   have hm:(i+j) / 2<l.length:=by omega
   obtain⟨r,hr⟩: ∃r,r=l[(i+j) / 2]:=⟨_,rfl⟩
   have HC:Hid (wr.cell? ⟨g,(i+j) / 2,none⟩=some (.pointer (some ⟨r.b,0,none⟩))):=Ab (by
    have:=(Aa HO).cell ((i+j) / 2) (by simpa using hm)
    rw[this,hr];simp)
   have HB:=Ab (Ys r y wr (Aa HR r (by rw[hr];exact List.getElem_mem hm)))
   by_cases hc:r.n<y
   ·have ec:cu r.n y= -1:=by unfold cu;rw[if_pos hc]
    rw[ec] at HB
    have HQ:Hid ((∀t (h:t<l.length),t<(i+j) / 2+1->l[t].n<y)/\(∀t (h:t<l.length),j<=t->y<=l[t].n)):=Ab ⟨fun t h h2=>(by
     rcases Nat.lt_or_ge t ((i+j) / 2) with h3|h3
     ·have h4:=(List.pairwise_iff_getElem.1 (Aa HS)) t ((i+j) / 2) h hm h3
      rw[←hr] at h4
      omega
     ·have h4:t=(i+j) / 2:=by omega
      subst h4
      rw[←hr];exact hc),(Aa H3).2⟩
    clear hr hc ec H3
    go_wp2_with (first|go_skip|(refine rd rfl (Gx 195 isAgg195 rfl rfl (Aa HC)) ?_))
    refine(Aa HB).mono ?_
    rintro _ _ ⟨rfl,rfl⟩
    go_wp2
    go_roundg (j - ((i+j) / 2+1))
    case measure=>omega
    case rel=>exact⟨(i+j) / 2+1,j,by first|rfl|(congr 1;omega),rfl,by omega,hjl,by omega,HQ,rfl⟩
   ·have ec: ¬cu r.n y<0:=by unfold cu;rw[if_neg hc];split<;>omega
    generalize cu r.n y=c at *
    have HQ:Hid ((∀t (h:t<l.length),t<i->l[t].n<y)/\(∀t (h:t<l.length),(i+j) / 2<=t->y<=l[t].n)):=Ab ⟨(Aa H3).1,fun t h h2=>(by
     rcases Nat.lt_or_ge ((i+j) / 2) t with h3|h3
     ·have h4:=(List.pairwise_iff_getElem.1 (Aa HS)) ((i+j) / 2) t hm h h3
      rw[←hr] at h4
      omega
     ·have h4:t=(i+j) / 2:=by omega
      subst h4
      rw[←hr];omega)⟩
    clear hr hc H3
    go_wp2_with (first|go_skip|(refine rd rfl (Gx 195 isAgg195 rfl rfl (Aa HC)) ?_))
    refine(Aa HB).mono ?_
    rintro _ _ ⟨rfl,rfl⟩
    go_wp2
    go_roundg ((i+j) / 2 - i)
    case measure=>omega
    case rel=>exact⟨i,(i+j) / 2,rfl,by first|rfl|(congr 1;omega),by omega,by omega,by omega,HQ,rfl⟩
  ·have hlz: ¬(i:Int)<j:=by omega
   have hij2:i=j:=by omega
   subst hij2
   by_cases he:i<l.length
   ·have hez:(i:Int)<l.length:=by omega
    obtain⟨r,hr⟩: ∃r,r=l[i]:=⟨_,rfl⟩
    have HC:Hid (wr.cell? ⟨g,i,none⟩=some (.pointer (some ⟨r.b,0,none⟩))):=Ab (by
     have:=(Aa HO).cell i (by simpa using he)
     rw[this,hr];simp)
    have HB:=Ab (Ys r y wr (Aa HR r (by rw[hr];exact List.getElem_mem he)))
    generalize cu r.n y=c at *
    clear hr
    go_wp2_with (first|go_skip|(refine rd rfl (Gx 195 isAgg195 rfl rfl (Aa HC)) ?_))
    refine(Aa HB).mono ?_
    rintro _ _ ⟨rfl,rfl⟩
    go_wp2
    go_ret2
    exact⟨i,_,rfl,hjl,(Aa H3).1,(Aa H3).2,rfl⟩
   ·have hez: ¬(i:Int)<l.length:=by omega
    go_wp2
    go_ret2
    exact⟨i,⟨_,rfl⟩,hjl,(Aa H3).1,(Aa H3).2,rfl⟩
theorem bs_nil (y:Nat) (A:Option Addr) (cap:Nat) (w:World):
  Calls prog 186 #[.slice A 0 cap, .int .u64 y, .func (.func 187) #[] #[]] w fun e w'=> ∃(p:Nat) (f:Value),e= .returned (.tuple #[.int .i64 p,f])/\p=0/\w'=w:=by
 go_enter func186,ntmps186
 go_wp2_with fail
 go_loopg [9,10,11] 0 (fun gm s9 s10 s11 wr=>s9= .int .i64 0/\s10= .int .i64 0/\wr=w)
 case atStart=>exact⟨rfl,rfl,rfl⟩
 case round=>
  obtain⟨rfl,rfl,rfl⟩:=hrel
  go_wp2
  go_ret2
  exact⟨0,_,rfl,rfl,rfl⟩
theorem find_at {l:List RR} {P:RR->Bool} {j:Nat} (hj:j<l.length) (h:P l[j]=true) (hb: ∀t (ht:t<l.length),t<j->P l[t]=false):l.find? P=some l[j]:=by
 rw[List.find?_eq_some_iff_getElem]
 exact⟨h,j,hj,rfl,fun t ht=>by rw[hb t (by omega) ht];rfl⟩
theorem find_none {l:List RR} {P:RR->Bool} (hb: ∀t (ht:t<l.length),P l[t]=false):l.find? P=none:=by
 rw[List.find?_eq_none]
 intro x hx
 obtain⟨t,ht,rfl⟩:=List.getElem_of_mem hx
 rw[hb t ht]
 simp
def after (n:Nat) (r:RR):Bool:=decide (n<r.n) && !r.gone
def TT.next (T:TT) (n:Nat):Option RR:=T.rows.find? (after n)
theorem slice70 (g n cap p:Nat) (hp:p<=n) (hn:n<=cap) (w:World): ∃off,(n - p≠0->off=p)/\(Instr.sliceAt 163 (.slice (some ⟨g,0,none⟩) n cap) (some (.int .i64 (p:Nat))) none none).run prog w= .ok (.slice (some ⟨g,off,none⟩) (n - p) (cap - p)) w:=by
 refine⟨if cap=p then 0 else p,fun h=>by rw[if_neg (by omega)], ?_⟩
 rw[run_sliceAt_slice (h:=by kernel_rfl),run_slice_l (ht:=by kernel_rfl) (h0:=by omega) (h1:=by omega)]
 have e:(sizeOf (prog.elem 163)).run prog w= .ok 1 w:=by kernel_rfl
 rw[e]
 by_cases h0:p=0
 ·subst h0
  simp[sliced,Addr.add,Result.andThen]
 ·by_cases h1:cap=p
  ·simp[sliced,Addr.add,Result.andThen,h0,h1]
  ·simp[sliced,Addr.add,Result.andThen,h0,h1]
theorem Za5 (w:World):(Instr.sliceAt 163 (.slice none 0 0) (some (.int .i64 (0:Nat))) none none).run prog w= .ok (.slice none 0 0) w:=by kernel_rfl
theorem Yg {o:Oper} {a:Act} {w:World} {x ix:Operand} {v u:Value} {p:Nat} (ho:o.op= .slice 163 x (some ix) none none) (hx:a.eval x=v) (hix:a.eval ix= .int .i64 (p:Nat)) (h:(Instr.sliceAt 163 v (some (.int .i64 (p:Nat))) none none).run prog w= .ok u w):(execOp a.eval o).run prog w= .ok (.value u) w:=by
 unfold execOp
 simp only[ho,hx]
 simp[hix,h]
theorem ZdS (T:TT) (n g cap:Nat) (w:World) (hT:T.Is w) (hl:T.last<=4000000) (hn:n<4000000) (hv:T.rv= .slice (some ⟨g,0,none⟩) T.rows.length cap) (hcap:T.rows.length<=cap):Calls prog 184 #[.pointer (some ⟨T.t,0,none⟩), .int .u64 n] w fun e w'=>e= .returned (pv ((T.next n).map (·.b)))/\w'=w:=by
 have hlen:=hT.len
 have HO:Hid (OwnP w (.slice (some ⟨g,0,none⟩) T.rows.length cap) (T.rows.map (·.b))):=Ab (hv▸hT.own)
 have HB:=Ab (bs_rows g cap (n+1) T.rows w (Aa HO) hT.rows hT.rise (by omega))
 have HS:=Ab (fun p hp=>slice70 g T.rows.length cap p hp hcap w)
 have hlen2:=Ab hlen
 have HT:=Ab hT
 have hl2:=Ab hl
 have hn2:=Ab hn
 have HV:Hid (Holds w T.t [.map (some T.m), .slice (some ⟨g,0,none⟩) T.rows.length cap, .int .u64 T.last]):=Ab (by have:=hT.tab;unfold TT.cs at this;rw[hv] at this;exact this)
 have HX:Hid (∀j,(hj:j<T.rows.length)->w.cell? ⟨g,j,none⟩=some (.pointer (some ⟨T.rows[j].b,0,none⟩))/\Holds w T.rows[j].b T.rows[j].cs):=Ab (fun j hj=>⟨by
  have:=(Aa HO).cell j (by simpa using hj)
  rw[this];simp,hT.rows _ (List.getElem_mem hj)⟩)
 unfold TT.next
 obtain⟨l,hle⟩: ∃l,l=T.rows:=⟨_,rfl⟩
 rw[←hle] at HB HS hlen2 HV HX HO ⊢
 clear hle hv hcap hT hlen hl hn HO
 go_enter func184,ntmps184
 go_wp2_with (first|go_skip|(refine rd rfl (Ag 163 isAgg163 rfl rfl (Aa HV) rfl) ?_)|(refine rd rfl (ZaM rfl rfl rfl (Aa hn2)) ?_))
 refine(Aa HB).mono ?_
 rintro _ w1 ⟨p,f,rfl,hp,h1,h2,rfl⟩
 obtain⟨off,ho,hs⟩:=(Aa HS) p hp
 have HX:=HX
 have H1:=Ab h1
 have H2:=Ab h2
 have HSl:=Ab hs
 have Ho:=Ab ho
 clear h1 h2 hs HS ho HB
 go_wp2_with (first|go_skip|(refine rd rfl (Ag 163 isAgg163 rfl rfl (Aa HV) rfl) ?_)|(refine rd rfl (Yg rfl rfl rfl (Aa HSl)) ?_))
 go_loopg [26,8] l.length (fun gm s26 s8 wr=> ∃i:Nat,s26= .int .i64 i/\i<=l.length - p/\l.length - p - i<=gm/\Hid (∀t (h:t<l.length),p<=t->t<p+i->l[t].gone=true)/\wr=w1)
 case atStart=>exact⟨0,rfl,by omega,by omega,Ab (fun t h h2 h3=>by omega),rfl⟩
 case round=>
  obtain⟨i,rfl,hi,hg,H3,rfl⟩:=hrel
  have hL:l.length<=4000000:=by have a:=Aa hlen2;have b:=Aa hl2;omega
  have hiz:i<=4000000:=by omega
  by_cases hlt:i<l.length - p
  ·have hlz:(i:Int)<((l.length - p:Nat):Int):=by omega
   have hm:p+i<l.length:=by omega
   obtain⟨r,hr⟩: ∃r,r=l[p+i]:=⟨_,rfl⟩
   obtain⟨hc1,hc2⟩:=(Aa HX) (p+i) hm
   rw[←hr] at hc1 hc2
   have HC:Hid (wr.cell? ⟨g,off+i,none⟩=some (.pointer (some ⟨r.b,0,none⟩))):=Ab (by rw[(Aa Ho) (by omega)];exact hc1)
   have HR:=Ab hc2
   clear hc1 hc2
   cases hgn:r.gone with
   |true=>
    have HR2:Hid (Holds wr r.b (r.k.cs++(r.d.cs++ [.int .u64 r.n, .bool true]))):=Ab (hgn▸Aa HR)
    have HQ:Hid (∀t (h:t<l.length),p<=t->t<p+(i+1)->l[t].gone=true):=Ab (fun t h h2 h3=>by
     rcases Nat.lt_or_ge t (p+i) with h4|h4
     ·exact(Aa H3) t h h2 h4
     ·have h5:t=p+i:=by omega
      subst h5
      rw[←hr];exact hgn)
    clear hr hgn H3 HR
    go_wp2_with (first|go_skip|(refine rd rfl (Gx 195 isAgg195 rfl rfl (Aa HC)) ?_)|(refine rd rfl (Ag 4 isAgg4 rfl rfl (Aa HR2) rfl) ?_))
    go_roundg (l.length - p - (i+1))
    case measure=>omega
    case rel=>exact⟨i+1,by go_num,hlt,Nat.le_refl _,HQ,rfl⟩
   |false=>
    have HR2:Hid (Holds wr r.b (r.k.cs++(r.d.cs++ [.int .u64 r.n, .bool false]))):=Ab (hgn▸Aa HR)
    have hfnd:l.find? (after n)=some r:=by
     rw[hr]
     refine find_at hm ?_ (fun t ht h4=> ?_)
     ·have:=(Aa H2) (p+i) hm (by omega)
      rw[←hr] at this ⊢
      simp[after,hgn];omega
     ·rcases Nat.lt_or_ge t p with h5|h5
      ·have:=(Aa H1) t ht h5
       simp[after];omega
      ·have:=(Aa H3) t ht h5 h4
       simp[after,this]
    have HF:=Ab hfnd
    clear hr hgn H3 HR hfnd
    go_wp2_with (first|go_skip|(refine rd rfl (Gx 195 isAgg195 rfl rfl (Aa HC)) ?_)|(refine rd rfl (Ag 4 isAgg4 rfl rfl (Aa HR2) rfl) ?_))
    go_ret
    refine⟨?_,rfl⟩
    rw[Aa HF]
    rfl
  ·have hlz: ¬(i:Int)<((l.length - p:Nat):Int):=by omega
   have hfnd:l.find? (after n)=none:=by
    refine find_none (fun t ht=> ?_)
    rcases Nat.lt_or_ge t p with h5|h5
    ·have:=(Aa H1) t ht h5
     simp[after];omega
    ·have:=(Aa H3) t ht h5 (by omega)
     simp[after,this]
   have HF:=Ab hfnd
   clear hfnd
   go_wp2
   go_ret
   refine⟨?_,rfl⟩
   rw[Aa HF]
   rfl
theorem Vw (T:TT) (n:Nat) (w:World) (hT:T.Is w) (hl:T.last<=4000000) (hn:n<4000000):Calls prog 184 #[.pointer (some ⟨T.t,0,none⟩), .int .u64 n] w fun e w'=>e= .returned (pv ((T.next n).map (·.b)))/\w'=w:=by
 rcases hT.own.2 with ⟨h1,h2⟩|⟨g,cap,cur,h1,h2,h3,h4,h5⟩
 ·have hr:T.rows= []:=by simpa using h2
  have HV:Hid (Holds w T.t [.map (some T.m), .slice none 0 0, .int .u64 T.last]):=Ab (by have:=hT.tab;unfold TT.cs at this;rw[h1] at this;exact this)
  have HB:=Ab (bs_nil (n+1) none 0 w)
  have HS:=Ab (Za5 w)
  have hn2:=Ab hn
  have HE:Hid (T.next n=none):=Ab (by unfold TT.next;rw[hr];rfl)
  clear hT hl hn h1 h2 hr
  go_enter func184,ntmps184
  go_wp2_with (first|go_skip|(refine rd rfl (Ag 163 isAgg163 rfl rfl (Aa HV) rfl) ?_)|(refine rd rfl (ZaM rfl rfl rfl (Aa hn2)) ?_))
  refine(Aa HB).mono ?_
  rintro _ w1 ⟨p,f,rfl,rfl,rfl⟩
  go_wp2_with (first|go_skip|(refine rd rfl (Ag 163 isAgg163 rfl rfl (Aa HV) rfl) ?_)|(refine rd rfl (Yg rfl rfl rfl (Aa HS)) ?_))
  go_loopg [26,8] 0 (fun gm s26 s8 wr=>s26= .int .i64 0/\wr=w1)
  case atStart=>exact⟨rfl,rfl⟩
  case round=>
   obtain⟨rfl,rfl⟩:=hrel
   go_wp2
   go_ret
   refine⟨?_,rfl⟩
   rw[Aa HE]
   rfl
 ·have e:T.rv= .slice (some ⟨g,0,none⟩) T.rows.length cap:=by rw[h1];simp
  exact ZdS T n g cap w hT hl hn e (by simpa using h4)
theorem Rm (m:Nat) (r:RR): ∀(l:List RR),l.Pairwise (fun a b=>a.n<b.n)->l.find? (after m)=some r->l.filter (after m)=r::l.filter (after r.n)
 | [],_,h=>by cases h
 |q::t,hp,h=>by
  obtain⟨h1,h2⟩:=List.pairwise_cons.1 hp
  by_cases hq:after m q=true
  ·rw[List.find?_cons_of_pos hq] at h
   obtain rfl:=Option.some.inj h
   have e0:after q.n q=false:=by simp[after]
   rw[List.filter_cons_of_pos hq,List.filter_cons_of_neg (by simp[e0])]
   congr 1
   apply List.filter_congr
   intro x hx
   have h3:=h1 x hx
   have h4:m<q.n:=by
    unfold after at hq
    simp at hq
    exact hq.1
   simp only[after]
   rw[decide_eq_true (by omega:m<x.n),decide_eq_true h3]
  ·rw[List.find?_cons_of_neg hq] at h
   have hr:r∈t:=List.mem_of_find?_eq_some h
   have h3:=h1 r hr
   rw[List.filter_cons_of_neg hq,Rm m r t h2 h,List.filter_cons_of_neg (by simp[after];omega)]
theorem ZbH (m:Nat) (l:List RR) (h:l.find? (after m)=none):l.filter (after m)= []:=by
 rw[List.filter_eq_nil_iff]
 exact List.find?_eq_none.1 h
theorem Zd3 {T:TT} {W:World} (hT:T.Is W):T.rows.filter (after 0)=T.live:=by
 unfold TT.live
 apply List.filter_congr
 intro r hr
 have:=(hT.num r hr).1
 simp only[after]
 rw[decide_eq_true (by omega:0<r.n)]
 simp
theorem Zbq {T:TT} {m:Nat} {r:RR} (h:T.next m=some r):r∈T.rows/\m<r.n/\r.gone=false:=by
 have h1:=List.mem_of_find?_eq_some h
 have h2:=List.find?_some h
 simp[after] at h2
 exact⟨h1,h2⟩
def RR.pr (r:RR):KK×DD:=(r.k,r.d)
def encP (x:KK×DD):Array Value:= #[x.1.agg,x.2.agg]
def left (T:TT):Value->Nat
 | .pointer (some a)=>(match T.rows.find? (fun r=>r.b==a.block) with
  |some r=>(T.rows.filter (after r.n)).length+1
  |none=>0)
 |_=>0
theorem each41 (T:TT) (w:World):Calls prog 179 #[.pointer (some ⟨T.t,0,none⟩)] w fun e w'=>e= .returned (.func (.func 183) #[] #[.pointer (some ⟨w.heap.size,0,none⟩)])/\w'=w.alloc (Obj.cells #[.pointer (some ⟨T.t,0,none⟩)] 121):=by
 go_enter func179,ntmps179
 go_wp2
 go_ret
 exact⟨rfl,rfl⟩
section -- laws in the fence
variable {n : Nat} {md : Region.Mode} {ops : Array Oper} {Q : Exit → Act → World → Prop} {w : World} {fuel : Nat} {listed : Array Bool} {a : Act} {o : Oper}
theorem ip (i:Nat) (dst:Option Tmp) (v:Value) (hi:ops[i]? =some o) (hs:Region.noSelect ops=true) (hf:Region.free md ops listed i=true) (hr:(Region.ready md ops listed).contains i=true)
  (hQ: ∀c a w,Q (.panic c) (a.put dst v) w->Q (.panic c) a w) (hd:o.dst=dst) (hw:Region.wanted o (yielded ops a.tmps)=true) (hy: ∀w,(execOp a.eval o).run prog w= .ok (.value v) w) (hab: ∀w,o.about prog w a.eval=none)
  (h:wpAnyIn Fence.wide n prog md ops Q fuel (listed.setIfInBounds i true) (a.put dst v) w):wpAnyIn Fence.wide n prog md ops Q (fuel+1) listed a w:=by
 subst hd
 exact wpAnyIn_take rfl hi hs hf hr hQ ⟨Or.inl ⟨hw,hy⟩,hab⟩ h
theorem isk (i:Nat) (dst:Option Tmp) (hi:ops[i]? =some o) (hs:Region.noSelect ops=true) (hf:Region.free md ops listed i=true) (hr:(Region.ready md ops listed).contains i=true)
  (hQ: ∀c a w,Q (.panic c) (a.put dst undef) w->Q (.panic c) a w) (hd:o.dst=dst) (hw:Region.wanted o (yielded ops a.tmps)=false) (hab: ∀w,o.about prog w a.eval=none)
  (h:wpAnyIn Fence.wide n prog md ops Q fuel (listed.setIfInBounds i true) (a.put dst undef) w):wpAnyIn Fence.wide n prog md ops Q (fuel+1) listed a w:=by
 subst hd
 exact wpAnyIn_take rfl hi hs hf hr hQ ⟨Or.inr ⟨hw,rfl⟩,hab⟩ h
theorem Ul (i:Nat) (dst:Option Tmp) {V:Value} {rs:List Nat} (hi:ops[i]? =some o) (hd:o.dst=dst) (hw:Region.wanted o (yielded ops a.tmps)=true) (he:(execOp a.eval o).run prog w= .ok (.value V) w)
  (h:wpAnyIn Fence.wide n prog md ops Q fuel (listed.setIfInBounds i true) (a.put dst V) w) (hs:AllReadyIn Fence.wide n prog md ops Q fuel listed a w rs):AllReadyIn Fence.wide n prog md ops Q fuel listed a w (i::rs):=by
 subst hd
 refine AllReadyIn.cons hi (fun K hK=> ?_) hs
 rw[if_pos hw]
 refine⟨fun _ _=>trivial, ?_⟩
 show o.uponIn Fence.wide n prog a K Q ((execOp a.eval o).run prog w)
 rw[he]
 exact hK _ _ h
theorem Zc9 (i:Nat) (dst:Option Tmp) {f:FuncId} {args:Array Value} {R:Ending->World->Prop} {rs:List Nat} (hi:ops[i]? =some o) (hd:o.dst=dst) (hw:Region.wanted o (yielded ops a.tmps)=true) (he:(execOp a.eval o).run prog w= .ok (.enter f args) w)
  (hC:Calls prog f args w R) (h: ∀e X,R e X-> ∃V,e= .returned V/\wpAnyIn Fence.wide n prog md ops Q fuel (listed.setIfInBounds i true) (a.put dst V) X) (hs:AllReadyIn Fence.wide n prog md ops Q fuel listed a w rs):AllReadyIn Fence.wide n prog md ops Q fuel listed a w (i::rs):=by
 subst hd
 refine AllReadyIn.cons hi (fun K hK=> ?_) hs
 rw[if_pos hw]
 refine⟨fun _ _=>trivial, ?_⟩
 show o.uponIn Fence.wide n prog a K Q ((execOp a.eval o).run prog w)
 rw[he,Oper.uponIn_enter]
 refine⟨(fun h=>by cases h),(callsIn_wide.2 hC).mono ?_⟩
 intro e X hR
 obtain⟨V,rfl,hV⟩:=h e X hR
 exact hK _ _ hV
theorem iround (i:Nat) (dst:Option Tmp) {l:Nat} {f:FuncId} {tmps:Array Value} {asg bd:Code} {R:Ending->World->Prop} {rs:List Nat} (hi:ops[i]? =some o) (hd:o.dst=dst) (hw:Region.wanted o (yielded ops a.tmps)=true) (he:(execOp a.eval o).run prog w= .ok (.round l f tmps asg bd) w)
  (hC:RoundIn Fence.wide (n - 1) prog l f tmps asg bd w R) (h: ∀e X,R e X-> ∃V,e= .returned V/\wpAnyIn Fence.wide n prog md ops Q fuel (listed.setIfInBounds i true) (a.put dst V) X) (hs:AllReadyIn Fence.wide n prog md ops Q fuel listed a w rs):AllReadyIn Fence.wide n prog md ops Q fuel listed a w (i::rs):=by
 subst hd
 refine AllReadyIn.cons hi (fun K hK=> ?_) hs
 rw[if_pos hw]
 refine⟨fun _ _=>trivial, ?_⟩
 show o.uponIn Fence.wide n prog a K Q ((execOp a.eval o).run prog w)
 rw[he,Oper.uponIn_round]
 refine⟨(fun h=>by cases h),hC.mono ?_⟩
 intro e X hR
 obtain⟨V,rfl,hV⟩:=h e X hR
 exact hK _ _ hV
end
def Kb (n₀ Bn:Nat) (W W':World):Prop:=Below n₀ W W'/\W'.heap[Bn]? =W.heap[Bn]?
theorem Nc {T:TT} {W:World} (hT:T.Is W) {r:RR} (hr:r∈T.rows):left T (.pointer (some ⟨r.b,0,none⟩))=(T.rows.filter (after r.n)).length+1:=by
 have hnd:=hT.nd
 simp only[TT.blocks,List.nodup_cons,List.mem_cons,List.mem_append,List.nodup_append,not_or] at hnd
 obtain⟨-, -, -,h7, -⟩:=hnd
 have e:T.rows.find? (fun q=>q.b==r.b)=some r:=by
  cases h:T.rows.find? (fun q=>q.b==r.b) with
  |none=>
   have:=List.find?_eq_none.1 h r hr
   simp at this
  |some q=>
   have h1:=List.mem_of_find?_eq_some h
   have h2:=List.find?_some h
   have e2:q.b=r.b:=by simpa using h2
   rcases List.getElem?_of_mem h1 with ⟨i,hi⟩
   rcases List.getElem?_of_mem hr with ⟨j,hj⟩
   have e3:(T.rows.map (·.b))[i]? =some r.b:=by simp[hi,e2]
   have e4:(T.rows.map (·.b))[j]? =some r.b:=by simp[hj]
   have hij:=(List.getElem?_inj (by simpa using (List.getElem?_eq_some_iff.1 hi).1) h7).1 (e3.trans e4.symm)
   subst hij
   rw[hi] at hj
   exact hj
 simp only[left,e]
theorem Nx {T:TT} {W:World} (hT:T.Is W) {m:Nat}:left T (pv ((T.next m).map (·.b)))=(T.rows.filter (after m)).length:=by
 cases h:T.next m with
 |none=>rw[ZbH m _ h];rfl
 |some r=>
  rw[Rm m r T.rows hT.rise h]
  exact Nc hT (Zbq h).1
theorem each_in (n:Nat) (hn:1<=n) (l Bn n₀:Nat) (T:TT) (J Jx:List (KK×DD)->World->Prop)
  (W:World) (hAb:AbidesFrom W.heap.size J) (hT:T.Is W) (hlast:T.last<4000000) (hlt: ∀b∈T.blocks,b<n₀)
  (hY: ∀pre x W,J pre W->pre.length<T.live.length->YieldAt Fence.wide (n - 1) prog l (encP x) W fun e W'=>
   (e= .returned (.bool true)/\J (pre++ [x]) W'/\Kb n₀ Bn W W')∨(e= .returned (.bool false)/\Jx (pre++ [x]) W'))
  (hBn:W.cell? ⟨Bn,0,none⟩=some (.pointer (some ⟨T.t,0,none⟩))) (h0:J [] W) (hn₀:n₀<=W.heap.size):
  CallsIn Fence.wide n prog 183 #[.func (.yield l) #[] #[], .pointer (some ⟨Bn,0,none⟩)] W fun e W'=>(∃v,e= .returned v)/\
   ((∃ys,ys=T.live.map RR.pr/\J ys W')∨(∃pre,pre<+:T.live.map RR.pr/\Jx pre W')):=by
 have HN:=Ab (Vw T 0 W hT (by omega) (by omega))
 refine callsIn_of_wp func183 rfl trivial ?_ rfl
 simp only[ntmps183,List.size_toArray,List.length_cons,List.length_nil,Nat.reduceAdd,Nat.reduceSub,Array.replicate_succ,Array.replicate_zero,List.push_toArray,List.append_toArray,List.nil_append,List.cons_append]
 gi_wp2_with fail
 refine⟨trivial,(callsIn_wide.2 (Aa HN)).mono ?_⟩
 rintro e w1 ⟨rfl,rfl⟩
 gi_wp2
 gi_loopw [3] (fun s3 wr=> ∃(pre:List (KK×DD)) (m:Nat),s3=pv ((T.next m).map (·.b))/\Hid (T.live.map RR.pr=pre++(T.rows.filter (after m)).map RR.pr)/\Hid (J pre wr)/\Hid (T.Is wr)/\wr.cell? ⟨Bn,0,none⟩=some (.pointer (some ⟨T.t,0,none⟩))/\Hid (n₀<=wr.heap.size/\w1.heap.size<=wr.heap.size/\m<=T.last)) (fun s3 _=>left T s3)
 case atStart=>
  exact⟨[],0,rfl,Ab (by rw[Zd3 hT];rfl),Ab h0,Ab hT,hBn,Ab ⟨hn₀,Nat.le_refl _,Nat.zero_le _⟩⟩
 case round=>
  obtain⟨pre,m,rfl,HX,HJ,HT,hc,HZ⟩:=hrel
  have HY:=Ab hY
  have HAb:=Ab hAb
  clear hY hAb h0 hBn hT HN
  cases hnx:T.next m with
  |none=>
   rw[show pv ((none:Option RR).map (·.b))= .pointer none from rfl]
   gi_wp2
   refine wpIn_region_any (by kernel_rfl) ?_
   refine ip 0 (some 6) (.pointer none) rfl (by kernel_rfl) (by kernel_rfl) (by kernel_rfl) (fun _ _ _ h=>h) (by kernel_rfl) (by kernel_rfl) (fun _=>by kernel_rfl) (fun _=>by kernel_rfl) ?_
   simp only[nn]
   refine ip 1 (some 7) (.bool false) rfl (by kernel_rfl) (by kernel_rfl) (by kernel_rfl) (fun _ _ _ h=>h) (by kernel_rfl) (by kernel_rfl) (fun _=>by kernel_rfl) (fun _=>by kernel_rfl) ?_
   simp only[nn]
   refine ip 2 (some 8) (.bool false) rfl (by kernel_rfl) (by kernel_rfl) (by kernel_rfl) (fun _ _ _ h=>h) (by kernel_rfl) (by kernel_rfl) (fun _=>by kernel_rfl) (fun _=>by kernel_rfl) ?_
   simp only[nn]
   refine isk 3 (some 9) rfl (by kernel_rfl) (by kernel_rfl) (by kernel_rfl) (fun _ _ _ h=>h) (by kernel_rfl) (by kernel_rfl) (fun _=>by kernel_rfl) ?_
   simp only[nn]
   refine isk 4 (some 10) rfl (by kernel_rfl) (by kernel_rfl) (by kernel_rfl) (fun _ _ _ h=>h) (by kernel_rfl) (by kernel_rfl) (fun _=>by kernel_rfl) ?_
   simp only[nn]
   refine isk 5 (some 11) rfl (by kernel_rfl) (by kernel_rfl) (by kernel_rfl) (fun _ _ _ h=>h) (by kernel_rfl) (by kernel_rfl) (fun _=>by kernel_rfl) ?_
   simp only[nn]
   refine isk 6 (some 12) rfl (by kernel_rfl) (by kernel_rfl) (by kernel_rfl) (fun _ _ _ h=>h) (by kernel_rfl) (by kernel_rfl) (fun _=>by kernel_rfl) ?_
   simp only[nn]
   refine isk 7 (some 13) rfl (by kernel_rfl) (by kernel_rfl) (by kernel_rfl) (fun _ _ _ h=>h) (by kernel_rfl) (by kernel_rfl) (fun _=>by kernel_rfl) ?_
   simp only[nn]
   refine isk 8 (some 14) rfl (by kernel_rfl) (by kernel_rfl) (by kernel_rfl) (fun _ _ _ h=>h) (by kernel_rfl) (by kernel_rfl) (fun _=>by kernel_rfl) ?_
   simp only[nn]
   refine isk 9 (some 15) rfl (by kernel_rfl) (by kernel_rfl) (by kernel_rfl) (fun _ _ _ h=>h) (by kernel_rfl) (by kernel_rfl) (fun _=>by kernel_rfl) ?_
   simp only[nn]
   refine isk 10 (some 16) rfl (by kernel_rfl) (by kernel_rfl) (by kernel_rfl) (fun _ _ _ h=>h) (by kernel_rfl) (by kernel_rfl) (fun _=>by kernel_rfl) ?_
   simp only[nn]
   refine isk 11 (some 17) rfl (by kernel_rfl) (by kernel_rfl) (by kernel_rfl) (fun _ _ _ h=>h) (by kernel_rfl) (by kernel_rfl) (fun _=>by kernel_rfl) ?_
   simp only[nn]
   refine isk 12 (some 18) rfl (by kernel_rfl) (by kernel_rfl) (by kernel_rfl) (fun _ _ _ h=>h) (by kernel_rfl) (by kernel_rfl) (fun _=>by kernel_rfl) ?_
   simp only[nn]
   refine isk 13 (some 19) rfl (by kernel_rfl) (by kernel_rfl) (by kernel_rfl) (fun _ _ _ h=>h) (by kernel_rfl) (by kernel_rfl) (fun _=>by kernel_rfl) ?_
   simp only[nn]
   refine isk 14 (some 20) rfl (by kernel_rfl) (by kernel_rfl) (by kernel_rfl) (fun _ _ _ h=>h) (by kernel_rfl) (by kernel_rfl) (fun _=>by kernel_rfl) ?_
   simp only[nn]
   refine ip 15 (some 21) (.bool false) rfl (by kernel_rfl) (by kernel_rfl) (by kernel_rfl) (fun _ _ _ h=>h) (by kernel_rfl) (by kernel_rfl) (fun _=>by kernel_rfl) (fun _=>by kernel_rfl) ?_
   simp only[nn]
   refine wpAnyIn_done (by kernel_rfl) ?_ _
   try simp only[nn]
   gi_wp2
   go_end0
   refine⟨⟨_,rfl⟩, .inl ⟨pre, ?_, ?_⟩⟩
   ·rw[Aa HX,ZbH m _ hnx];simp
   ·exact(Aa HAb) pre wr wr.drew none (Aa HJ) (Ed ((Below.refl _ _).drew)) (fun r e=>by cases e)
  |some r=>
   rw[show pv ((some r:Option RR).map (·.b))= .pointer (some ⟨r.b,0,none⟩) from rfl]
   obtain⟨hrm,hrn,hrg⟩:=Zbq hnx
   have HR:=Ab ((Aa HT).rows r hrm)
   have hfc:=Rm m r T.rows (Aa HT).rise hnx
   have hlv:T.live.length=pre.length+((T.rows.filter (after r.n)).length+1):=by
    have:=congrArg List.length (Aa HX)
    rw[hfc] at this
    simpa using this
   have hJ1:=(Aa HAb) pre wr wr.drew none (Aa HJ) (Ed ((Below.refl _ _).drew)) (fun r e=>by cases e)
   obtain⟨fn,tmps,asg,bd,hy,hRd⟩:=(Aa HY) pre r.pr wr.drew hJ1 (by omega)
   have HRd:=Ab hRd
   have Hy:Hid ((Instr.yield l #[r.k.agg,r.d.agg]).run prog wr.drew= .ok (.round l fn tmps asg bd) wr.drew):=Ab hy
   have Hfc:=Ab hfc
   have Hrn:=Ab (And.intro hrm (And.intro hrn hrg))
   clear hRd hy hJ1 hfc hlv hrm hrn hrg
   gi_wp2
   refine wpIn_region_any (by kernel_rfl) ?_
   refine ip 0 (some 6) (.pointer (some ⟨r.b,0,none⟩)) rfl (by kernel_rfl) (by kernel_rfl) (by kernel_rfl) (fun _ _ _ h=>h) (by kernel_rfl) (by kernel_rfl) (fun _=>by kernel_rfl) (fun _=>by kernel_rfl) ?_
   simp only[nn]
   refine ip 1 (some 7) (.bool true) rfl (by kernel_rfl) (by kernel_rfl) (by kernel_rfl) (fun _ _ _ h=>h) (by kernel_rfl) (by kernel_rfl) (fun _=>by kernel_rfl) (fun _=>by kernel_rfl) ?_
   simp only[nn]
   refine ip 2 (some 8) (.bool true) rfl (by kernel_rfl) (by kernel_rfl) (by kernel_rfl) (fun _ _ _ h=>h) (by kernel_rfl) (by kernel_rfl) (fun _=>by kernel_rfl) (fun _=>by kernel_rfl) ?_
   simp only[nn]
   refine ip 3 (some 9) (.func (.yield l) #[] #[]) rfl (by kernel_rfl) (by kernel_rfl) (by kernel_rfl) (fun _ _ _ h=>h) (by kernel_rfl) (by kernel_rfl) (fun _=>by kernel_rfl) (fun _=>by kernel_rfl) ?_
   simp only[nn]
   refine ip 4 (some 10) (.pointer (some ⟨r.b,0,none⟩)) rfl (by kernel_rfl) (by kernel_rfl) (by kernel_rfl) (fun _ _ _ h=>h) (by kernel_rfl) (by kernel_rfl) (fun _=>by kernel_rfl) (fun _=>by kernel_rfl) ?_
   simp only[nn]
   refine ip 5 (some 11) (.pointer (some ⟨r.b,0,none⟩)) rfl (by kernel_rfl) (by kernel_rfl) (by kernel_rfl) (fun _ _ _ h=>h) (by kernel_rfl) (by kernel_rfl) (fun _=>by kernel_rfl) (fun _=>by kernel_rfl) ?_
   simp only[nn]
   refine ip 6 (some 12) (.pointer (some ⟨r.b,0,none⟩)) rfl (by kernel_rfl) (by kernel_rfl) (by kernel_rfl) (fun _ _ _ h=>h) (by kernel_rfl) (by kernel_rfl) (fun _=>by kernel_rfl) (fun _=>by kernel_rfl) ?_
   simp only[nn]
   refine ip 7 (some 13) (.pointer (some ⟨r.b,0,none⟩)) rfl (by kernel_rfl) (by kernel_rfl) (by kernel_rfl) (fun _ _ _ h=>h) (by kernel_rfl) (by kernel_rfl) (fun _=>by kernel_rfl) (fun _=>by kernel_rfl) ?_
   simp only[nn]
   refine ip 9 (some 15) (.pointer (some ⟨r.b,0,none⟩)) rfl (by kernel_rfl) (by kernel_rfl) (by kernel_rfl) (fun _ _ _ h=>h) (by kernel_rfl) (by kernel_rfl) (fun _=>by kernel_rfl) (fun _=>by kernel_rfl) ?_
   simp only[nn]
   refine ip 10 (some 16) (.pointer (some ⟨r.b,0,none⟩)) rfl (by kernel_rfl) (by kernel_rfl) (by kernel_rfl) (fun _ _ _ h=>h) (by kernel_rfl) (by kernel_rfl) (fun _=>by kernel_rfl) (fun _=>by kernel_rfl) ?_
   simp only[nn]
   refine ip 11 (some 17) (.pointer (some ⟨r.b,0,none⟩)) rfl (by kernel_rfl) (by kernel_rfl) (by kernel_rfl) (fun _ _ _ h=>h) (by kernel_rfl) (by kernel_rfl) (fun _=>by kernel_rfl) (fun _=>by kernel_rfl) ?_
   simp only[nn]
   refine ip 12 (some 18) (.pointer (some ⟨r.b,2,none⟩)) rfl (by kernel_rfl) (by kernel_rfl) (by kernel_rfl) (fun _ _ _ h=>h) (by kernel_rfl) (by kernel_rfl) (fun _=>by kernel_rfl) (fun _=>by kernel_rfl) ?_
   simp only[nn]
   refine wpAnyIn_ready (rs:= [8,13]) (by kernel_rfl) (by simp) (Ul 8 (some 14) rfl (by kernel_rfl) (by kernel_rfl) (Am (vs:=r.k.cs) 45 2 Gm Jr rfl rfl ((Holds.block (Aa HR) rfl)) rfl rfl) ?_ (Ul 13 (some 19) rfl (by kernel_rfl) (by kernel_rfl) (Am (vs:=r.d.cs) 48 18 Vl Oj rfl rfl ((Holds.block (Aa HR) rfl)) rfl rfl) ?_ AllReadyIn.nil))
   ·simp only[nn]
    refine wpAnyIn_ready (rs:= [13]) (by kernel_rfl) (by simp) (Ul 13 (some 19) rfl (by kernel_rfl) (by kernel_rfl) (Am (vs:=r.d.cs) 48 18 Vl Oj rfl rfl ((Holds.block (Aa HR) rfl)) rfl rfl) ?_ AllReadyIn.nil)
    simp only[nn]
    refine wpAnyIn_ready (rs:= [14]) (by kernel_rfl) (by simp) (iround 14 (some 20) rfl (by kernel_rfl) (by kernel_rfl) (Eq.trans (b:=(Instr.yield l #[r.k.agg,r.d.agg]).run prog wr.drew) (by kernel_rfl) (Aa Hy)) (Aa HRd) ?_ AllReadyIn.nil)
    rintro e W3 (⟨rfl,hJ3,hb3⟩|⟨rfl,hJx3⟩)
    ·refine⟨_,rfl, ?_⟩
     simp only[nn]
     refine ip 15 (some 21) (.bool true) rfl (by kernel_rfl) (by kernel_rfl) (by kernel_rfl) (fun _ _ _ h=>h) (by kernel_rfl) (by kernel_rfl) (fun _=>by kernel_rfl) (fun _=>by kernel_rfl) ?_
     simp only[nn]
     refine wpAnyIn_done (by kernel_rfl) ?_ _
     try simp only[nn]
     have HT3:=Ab ((Aa HT).block (fun b hb=>hb3.1.block b (hlt b hb)))
     have hc3:W3.cell? ⟨Bn,0,none⟩=some (.pointer (some ⟨T.t,0,none⟩)):=(World.cell?_of_block (a:=⟨Bn,0,none⟩) hb3.2).trans hc
     have HJ3:=Ab hJ3
     have Hs3:=Ab hb3.1.size
     clear hJ3 hb3
     gi_wp2
     refine wpIn_region_any (by kernel_rfl) ?_
     refine ip 1 (some 23) (.pointer (some ⟨r.b,0,none⟩)) rfl (by kernel_rfl) (by kernel_rfl) (by kernel_rfl) (fun _ _ _ h=>h) (by kernel_rfl) (by kernel_rfl) (fun _=>by kernel_rfl) (fun _=>by kernel_rfl) ?_
     simp only[nn]
     refine ip 2 (some 24) (.pointer (some ⟨r.b,0,none⟩)) rfl (by kernel_rfl) (by kernel_rfl) (by kernel_rfl) (fun _ _ _ h=>h) (by kernel_rfl) (by kernel_rfl) (fun _=>by kernel_rfl) (fun _=>by kernel_rfl) ?_
     simp only[nn]
     refine ip 3 (some 25) (.pointer (some ⟨r.b,20,none⟩)) rfl (by kernel_rfl) (by kernel_rfl) (by kernel_rfl) (fun _ _ _ h=>h) (by kernel_rfl) (by kernel_rfl) (fun _=>by kernel_rfl) (fun _=>by kernel_rfl) ?_
     simp only[nn]
     refine wpAnyIn_ready (rs:= [0,4]) (by kernel_rfl) (by simp) (Ul 0 (some 22) rfl (by kernel_rfl) (by kernel_rfl) (Gx (W:=W3.drew) 121 isAgg121 rfl rfl hc3) ?_ (Ul 4 (some 26) rfl (by kernel_rfl) (by kernel_rfl) (Ag 105 isAgg105 rfl rfl ((Holds.block ((Aa HT3).rows r (Aa Hrn).1) rfl:Holds W3.drew r.b r.cs)) rfl) ?_ AllReadyIn.nil))
     ·simp only[nn]
      refine wpAnyIn_ready (rs:= [4]) (by kernel_rfl) (by simp) (Ul 4 (some 26) rfl (by kernel_rfl) (by kernel_rfl) (Ag 105 isAgg105 rfl rfl ((Holds.block ((Aa HT3).rows r (Aa Hrn).1) rfl:Holds W3.drew r.b r.cs)) rfl) ?_ AllReadyIn.nil)
      simp only[nn]
      refine wpAnyIn_ready (rs:= [5]) (by kernel_rfl) (by simp) (Zc9 5 (some 27) rfl (by kernel_rfl) (by kernel_rfl) (by kernel_rfl) (Vw T r.n W3.drew (Aa HT3).drew (by omega) (by have:=((Aa HT3).num r (Aa Hrn).1).2;omega)) ?_ AllReadyIn.nil)
      rintro e X ⟨rfl,rfl⟩
      refine⟨_,rfl, ?_⟩
      simp only[nn]
      refine ip 6 (some 3) (pv ((T.next r.n).map (·.b))) rfl (by kernel_rfl) (by kernel_rfl) (by kernel_rfl) (fun _ _ _ h=>h) (by kernel_rfl) (by kernel_rfl) (fun _=>by kernel_rfl) (fun _=>by kernel_rfl) ?_
      simp only[nn]
      refine wpAnyIn_done (by kernel_rfl) ?_ _
      try simp only[nn]
      gi_wp2
      go_roundw
      case rel=>
       refine⟨pre++ [r.pr],r.n,rfl,Ab ?_,Ab ?_,Ab (Aa HT3).drew,hc3,Ab ?_⟩
       ·rw[Aa HX,Aa Hfc];simp
       ·exact(Aa HAb) _ W3 W3.drew none (Aa HJ3) (Ed ((Below.refl _ _).drew)) (fun r e=>by cases e)
       ·have h1:=Aa HZ;have h2:wr.heap.size<=W3.heap.size:=Aa Hs3;have h3:=((Aa HT3).num r (Aa Hrn).1).2;exact⟨Nat.le_trans h1.1 h2,Nat.le_trans h1.2.1 h2,h3⟩
      case measure=>
       rw[Nx (Aa HT3),Nc (Aa HT3) (Aa Hrn).1]
       exact Nat.lt_succ_self _
     ·simp only[nn]
      refine wpAnyIn_ready (rs:= [0]) (by kernel_rfl) (by simp) (Ul 0 (some 22) rfl (by kernel_rfl) (by kernel_rfl) (Gx (W:=W3.drew) 121 isAgg121 rfl rfl hc3) ?_ AllReadyIn.nil)
      simp only[nn]
      refine wpAnyIn_ready (rs:= [5]) (by kernel_rfl) (by simp) (Zc9 5 (some 27) rfl (by kernel_rfl) (by kernel_rfl) (by kernel_rfl) (Vw T r.n W3.drew (Aa HT3).drew (by omega) (by have:=((Aa HT3).num r (Aa Hrn).1).2;omega)) ?_ AllReadyIn.nil)
      rintro e X ⟨rfl,rfl⟩
      refine⟨_,rfl, ?_⟩
      simp only[nn]
      refine ip 6 (some 3) (pv ((T.next r.n).map (·.b))) rfl (by kernel_rfl) (by kernel_rfl) (by kernel_rfl) (fun _ _ _ h=>h) (by kernel_rfl) (by kernel_rfl) (fun _=>by kernel_rfl) (fun _=>by kernel_rfl) ?_
      simp only[nn]
      refine wpAnyIn_done (by kernel_rfl) ?_ _
      try simp only[nn]
      gi_wp2
      go_roundw
      case rel=>
       refine⟨pre++ [r.pr],r.n,rfl,Ab ?_,Ab ?_,Ab (Aa HT3).drew,hc3,Ab ?_⟩
       ·rw[Aa HX,Aa Hfc];simp
       ·exact(Aa HAb) _ W3 W3.drew none (Aa HJ3) (Ed ((Below.refl _ _).drew)) (fun r e=>by cases e)
       ·have h1:=Aa HZ;have h2:wr.heap.size<=W3.heap.size:=Aa Hs3;have h3:=((Aa HT3).num r (Aa Hrn).1).2;exact⟨Nat.le_trans h1.1 h2,Nat.le_trans h1.2.1 h2,h3⟩
      case measure=>
       rw[Nx (Aa HT3),Nc (Aa HT3) (Aa Hrn).1]
       exact Nat.lt_succ_self _
    ·refine⟨_,rfl, ?_⟩
     simp only[nn]
     refine ip 15 (some 21) (.bool false) rfl (by kernel_rfl) (by kernel_rfl) (by kernel_rfl) (fun _ _ _ h=>h) (by kernel_rfl) (by kernel_rfl) (fun _=>by kernel_rfl) (fun _=>by kernel_rfl) ?_
     simp only[nn]
     refine wpAnyIn_done (by kernel_rfl) ?_ _
     try simp only[nn]
     have HJx:=Ab hJx3
     clear hJx3
     gi_wp2
     go_end0
     refine⟨⟨_,rfl⟩, .inr ⟨pre++ [r.pr], ?_,Aa HJx⟩⟩
     rw[Aa HX,Aa Hfc]
     exact⟨(T.rows.filter (after r.n)).map RR.pr,by simp⟩
   ·simp only[nn]
    refine wpAnyIn_ready (rs:= [8]) (by kernel_rfl) (by simp) (Ul 8 (some 14) rfl (by kernel_rfl) (by kernel_rfl) (Am (vs:=r.k.cs) 45 2 Gm Jr rfl rfl ((Holds.block (Aa HR) rfl)) rfl rfl) ?_ AllReadyIn.nil)
    simp only[nn]
    refine wpAnyIn_ready (rs:= [14]) (by kernel_rfl) (by simp) (iround 14 (some 20) rfl (by kernel_rfl) (by kernel_rfl) (Eq.trans (b:=(Instr.yield l #[r.k.agg,r.d.agg]).run prog wr.drew) (by kernel_rfl) (Aa Hy)) (Aa HRd) ?_ AllReadyIn.nil)
    rintro e W3 (⟨rfl,hJ3,hb3⟩|⟨rfl,hJx3⟩)
    ·refine⟨_,rfl, ?_⟩
     simp only[nn]
     refine ip 15 (some 21) (.bool true) rfl (by kernel_rfl) (by kernel_rfl) (by kernel_rfl) (fun _ _ _ h=>h) (by kernel_rfl) (by kernel_rfl) (fun _=>by kernel_rfl) (fun _=>by kernel_rfl) ?_
     simp only[nn]
     refine wpAnyIn_done (by kernel_rfl) ?_ _
     try simp only[nn]
     have HT3:=Ab ((Aa HT).block (fun b hb=>hb3.1.block b (hlt b hb)))
     have hc3:W3.cell? ⟨Bn,0,none⟩=some (.pointer (some ⟨T.t,0,none⟩)):=(World.cell?_of_block (a:=⟨Bn,0,none⟩) hb3.2).trans hc
     have HJ3:=Ab hJ3
     have Hs3:=Ab hb3.1.size
     clear hJ3 hb3
     gi_wp2
     refine wpIn_region_any (by kernel_rfl) ?_
     refine ip 1 (some 23) (.pointer (some ⟨r.b,0,none⟩)) rfl (by kernel_rfl) (by kernel_rfl) (by kernel_rfl) (fun _ _ _ h=>h) (by kernel_rfl) (by kernel_rfl) (fun _=>by kernel_rfl) (fun _=>by kernel_rfl) ?_
     simp only[nn]
     refine ip 2 (some 24) (.pointer (some ⟨r.b,0,none⟩)) rfl (by kernel_rfl) (by kernel_rfl) (by kernel_rfl) (fun _ _ _ h=>h) (by kernel_rfl) (by kernel_rfl) (fun _=>by kernel_rfl) (fun _=>by kernel_rfl) ?_
     simp only[nn]
     refine ip 3 (some 25) (.pointer (some ⟨r.b,20,none⟩)) rfl (by kernel_rfl) (by kernel_rfl) (by kernel_rfl) (fun _ _ _ h=>h) (by kernel_rfl) (by kernel_rfl) (fun _=>by kernel_rfl) (fun _=>by kernel_rfl) ?_
     simp only[nn]
     refine wpAnyIn_ready (rs:= [0,4]) (by kernel_rfl) (by simp) (Ul 0 (some 22) rfl (by kernel_rfl) (by kernel_rfl) (Gx (W:=W3.drew) 121 isAgg121 rfl rfl hc3) ?_ (Ul 4 (some 26) rfl (by kernel_rfl) (by kernel_rfl) (Ag 105 isAgg105 rfl rfl ((Holds.block ((Aa HT3).rows r (Aa Hrn).1) rfl:Holds W3.drew r.b r.cs)) rfl) ?_ AllReadyIn.nil))
     ·simp only[nn]
      refine wpAnyIn_ready (rs:= [4]) (by kernel_rfl) (by simp) (Ul 4 (some 26) rfl (by kernel_rfl) (by kernel_rfl) (Ag 105 isAgg105 rfl rfl ((Holds.block ((Aa HT3).rows r (Aa Hrn).1) rfl:Holds W3.drew r.b r.cs)) rfl) ?_ AllReadyIn.nil)
      simp only[nn]
      refine wpAnyIn_ready (rs:= [5]) (by kernel_rfl) (by simp) (Zc9 5 (some 27) rfl (by kernel_rfl) (by kernel_rfl) (by kernel_rfl) (Vw T r.n W3.drew (Aa HT3).drew (by omega) (by have:=((Aa HT3).num r (Aa Hrn).1).2;omega)) ?_ AllReadyIn.nil)
      rintro e X ⟨rfl,rfl⟩
      refine⟨_,rfl, ?_⟩
      simp only[nn]
      refine ip 6 (some 3) (pv ((T.next r.n).map (·.b))) rfl (by kernel_rfl) (by kernel_rfl) (by kernel_rfl) (fun _ _ _ h=>h) (by kernel_rfl) (by kernel_rfl) (fun _=>by kernel_rfl) (fun _=>by kernel_rfl) ?_
      simp only[nn]
      refine wpAnyIn_done (by kernel_rfl) ?_ _
      try simp only[nn]
      gi_wp2
      go_roundw
      case rel=>
       refine⟨pre++ [r.pr],r.n,rfl,Ab ?_,Ab ?_,Ab (Aa HT3).drew,hc3,Ab ?_⟩
       ·rw[Aa HX,Aa Hfc];simp
       ·exact(Aa HAb) _ W3 W3.drew none (Aa HJ3) (Ed ((Below.refl _ _).drew)) (fun r e=>by cases e)
       ·have h1:=Aa HZ;have h2:wr.heap.size<=W3.heap.size:=Aa Hs3;have h3:=((Aa HT3).num r (Aa Hrn).1).2;exact⟨Nat.le_trans h1.1 h2,Nat.le_trans h1.2.1 h2,h3⟩
      case measure=>
       rw[Nx (Aa HT3),Nc (Aa HT3) (Aa Hrn).1]
       exact Nat.lt_succ_self _
     ·simp only[nn]
      refine wpAnyIn_ready (rs:= [0]) (by kernel_rfl) (by simp) (Ul 0 (some 22) rfl (by kernel_rfl) (by kernel_rfl) (Gx (W:=W3.drew) 121 isAgg121 rfl rfl hc3) ?_ AllReadyIn.nil)
      simp only[nn]
      refine wpAnyIn_ready (rs:= [5]) (by kernel_rfl) (by simp) (Zc9 5 (some 27) rfl (by kernel_rfl) (by kernel_rfl) (by kernel_rfl) (Vw T r.n W3.drew (Aa HT3).drew (by omega) (by have:=((Aa HT3).num r (Aa Hrn).1).2;omega)) ?_ AllReadyIn.nil)
      rintro e X ⟨rfl,rfl⟩
      refine⟨_,rfl, ?_⟩
      simp only[nn]
      refine ip 6 (some 3) (pv ((T.next r.n).map (·.b))) rfl (by kernel_rfl) (by kernel_rfl) (by kernel_rfl) (fun _ _ _ h=>h) (by kernel_rfl) (by kernel_rfl) (fun _=>by kernel_rfl) (fun _=>by kernel_rfl) ?_
      simp only[nn]
      refine wpAnyIn_done (by kernel_rfl) ?_ _
      try simp only[nn]
      gi_wp2
      go_roundw
      case rel=>
       refine⟨pre++ [r.pr],r.n,rfl,Ab ?_,Ab ?_,Ab (Aa HT3).drew,hc3,Ab ?_⟩
       ·rw[Aa HX,Aa Hfc];simp
       ·exact(Aa HAb) _ W3 W3.drew none (Aa HJ3) (Ed ((Below.refl _ _).drew)) (fun r e=>by cases e)
       ·have h1:=Aa HZ;have h2:wr.heap.size<=W3.heap.size:=Aa Hs3;have h3:=((Aa HT3).num r (Aa Hrn).1).2;exact⟨Nat.le_trans h1.1 h2,Nat.le_trans h1.2.1 h2,h3⟩
      case measure=>
       rw[Nx (Aa HT3),Nc (Aa HT3) (Aa Hrn).1]
       exact Nat.lt_succ_self _
    ·refine⟨_,rfl, ?_⟩
     simp only[nn]
     refine ip 15 (some 21) (.bool false) rfl (by kernel_rfl) (by kernel_rfl) (by kernel_rfl) (fun _ _ _ h=>h) (by kernel_rfl) (by kernel_rfl) (fun _=>by kernel_rfl) (fun _=>by kernel_rfl) ?_
     simp only[nn]
     refine wpAnyIn_done (by kernel_rfl) ?_ _
     try simp only[nn]
     have HJx:=Ab hJx3
     clear hJx3
     gi_wp2
     go_end0
     refine⟨⟨_,rfl⟩, .inr ⟨pre++ [r.pr], ?_,Aa HJx⟩⟩
     rw[Aa HX,Aa Hfc]
     exact⟨(T.rows.filter (after r.n)).map RR.pr,by simp⟩
end
section
open Go Go.Proofs Go.Maps Go.RowKit Tryz
attribute [local go_sem] Oper.semAt_some
section
variable {F : Fence} {n : Nat} {ops : Array Oper} {rest : List Oper} {Q : Exit → Act → World → Prop} {w X : World} {a : Act} {o : Oper}
theorem inV {V:Value} (hF: ∀f,F.fn f) (hw:Region.wanted o (yielded ops a.tmps)=true) (hnd: ∀c,o.op≠ .defer c) (he:(execOp a.eval o).run prog w= .ok (.value V) X)
  (h:wpListIn F n prog ops Q rest (a.put o.dst V) X):wpListIn F n prog ops Q (o::rest) a w:=by
 refine BigFrame.wpListIn_want hw fun K hK=> ?_
 refine⟨fun f _=>hF f, ?_⟩
 have e:o.semAt F.round a.eval=execOp a.eval o:=by
  cases F.round with
  |none=>rfl
  |some l=>exact Oper.semAt_some l _ _ hnd
 rw[e,he]
 exact hK _ _ h
theorem inS (hF: ∀f,F.fn f) (hw:Region.wanted o (yielded ops a.tmps)=true) (hnd: ∀c,o.op≠ .defer c) (he:(execOp a.eval o).run prog w= .ok .skip X)
  (h:wpListIn F n prog ops Q rest (a.put o.dst undef) X):wpListIn F n prog ops Q (o::rest) a w:=by
 refine BigFrame.wpListIn_want hw fun K hK=> ?_
 refine⟨fun f _=>hF f, ?_⟩
 have e:o.semAt F.round a.eval=execOp a.eval o:=by
  cases F.round with
  |none=>rfl
  |some l=>exact Oper.semAt_some l _ _ hnd
 rw[e,he]
 exact hK _ _ h
theorem Gb {t:TypeId} {b p:Nat} {cs vs:List Value} {v:Value} {x y:Operand} (ho:o.op= .store t x y) (hx:a.eval x= .pointer (some ⟨b,p,none⟩)) (hy:a.eval y=v) (hv:v.cells.toList=vs) (h1: ∀u∈vs,u.oneCell'=true) (hi:(prog.info? t).map (·.size)=some vs.length) (hH:Holds w b cs) (hp:p+vs.length<=cs.length):
  (execOp a.eval o).run prog w= .ok .skip (w.setCells b p vs):=by
 unfold execOp
 simp only[ho,hx,hy,Instr.storeAt,Instr.sureAddr,Sem.run_bind,Sem.run_pure,Result.andThen_ok,Dt w b p t v vs hv (hH.there p vs.length hp) hi h1]
theorem Zcy (ho:o.op= .alloc 45):(execOp a.eval o).run prog w= .ok (.value (.pointer (some ⟨w.heap.size,0,none⟩))) (w.alloc (Obj.cells Gv.cs.toArray 45)):=by
 unfold execOp
 simp only[ho]
 simp[go_sem,Tryz.zeroValue45]
 rfl
theorem Zy {t e:TypeId} {size bytes:Nat} {z v:Value} {cs:List Value} {x:Operand} (ho:o.op= .buildSlice t 1 #[(0,x)]) (hx:a.eval x=v)
  (ht:prog.underlying t=some (.slice e)) (hi:(prog.info? e).map (fun i=>(i.zero,i.size,i.bytes))=some (some z,size,bytes)) (hs1:size<=100) (hv:v.cells.toList=cs) (hc:cs.length=size) (h0:0<size):
  (execOp a.eval o).run prog w= .ok (.value (.slice (some ⟨w.heap.size,0,none⟩) 1 1)) (w.alloc (Obj.cells cs.toArray e)):=by
 obtain⟨i0,hi,hz0,hz1,hz2⟩:=info_parts hi
 have ev:v.cells=cs.toArray:=by rw[←hv]
 have es:v.cells.size=size:=by rw[ev];simpa using hc
 have hr:=run_buildSlice w t e 1 #[(0,v)] cs.toArray i0 _ ht hi hz0 (by rw[hz1];omega) (by rw[hz1];omega) (by
  rw[hz1,←ev]
  exact ZbM size _ v (by simp) es)
 unfold execOp
 simp only[ho,List.map_toArray,List.map_cons,List.map_nil,hx]
 simp[hr]
theorem Zec {t e:TypeId} {size bytes k m c B base:Nat} {z v:Value} {xs news:List Value} {s x:Operand} (ho:o.op= .call {callee:= .builtin .append,args:= #[s,x],argTypes:= #[t,t]}) (hs:a.eval s=v) (hx:a.eval x= .slice (some ⟨B,0,none⟩) m c)
  (ht:prog.underlying t=some (.slice e)) (hi:(prog.info? e).map (fun i=>(i.zero,i.size,i.bytes))=some (some z,size,bytes)) (hz:z.cells.size=size) (hsz:0<size) (hown:w.ownsRow base e size v k xs) (hB:Holds w B news) (hl:news.length=m * size) (h1: ∀u∈news,u.oneCell'=true)
  (hn:k+m<=4000000) (hby:bytes<=10000) (hbase:base<=w.heap.size):
  ∃A c' w',(execOp a.eval o).run prog w= .ok (.value (.slice A (k+m) c')) w'/\w'.ownsRow base e size (.slice A (k+m) c') (k+m) (xs++news)/\w.grownBy w' v.ownBlock:=by
 obtain⟨i0,hi,hz0,hz1,hz2⟩:=info_parts hi
 obtain⟨v',w',hrun,h2,h3,h4⟩:=Jp w base t o.type e i0 _ size bytes ht hi hz0 hz1 hz2 hz hsz v k xs hown ⟨B,0,none⟩ m c news hl (fun j u hj=>by
  rw[Addr.add_mid]
  exact hB.2 j u hj) h1 (by unfold maxLen;omega) (Nat.le_trans (Nat.mul_le_mul hn hby) (by decide)) hbase
 obtain⟨A',c',rfl⟩:=Jf h2
 refine⟨A',c',w', ?_,h2,h3⟩
 simp[execOp,ho,resolve,invoke,builtin,hs,hx,hrun,Result.andThen]
end
theorem appI {F:Fence} {n:Nat} {ops:Array Oper} {rest:List Oper} {Q:Exit->Act->World->Prop} {w:World} {a:Act} {o:Oper} {t e:TypeId} {size bytes k m c B base:Nat} {z v:Value} {xs news:List Value} {s x:Operand} (hF: ∀f,F.fn f) (hw:Region.wanted o (yielded ops a.tmps)=true) (ho:o.op= .call {callee:= .builtin .append,args:= #[s,x],argTypes:= #[t,t]}) (hs:a.eval s=v) (hx:a.eval x= .slice (some ⟨B,0,none⟩) m c)
  (ht:prog.underlying t=some (.slice e)) (hi:(prog.info? e).map (fun i=>(i.zero,i.size,i.bytes))=some (some z,size,bytes)) (hz:z.cells.size=size) (hsz:0<size) (hown:w.ownsRow base e size v k xs) (hB:Holds w B news) (hl:news.length=m * size) (h1: ∀u∈news,u.oneCell'=true)
  (hn:k+m<=4000000) (hby:bytes<=10000) (hbase:base<=w.heap.size)
  (h: ∀A c' w',w'.ownsRow base e size (.slice A (k+m) c') (k+m) (xs++news)->w.grownBy w' v.ownBlock->wpListIn F n prog ops Q rest (a.put o.dst (.slice A (k+m) c')) w'):wpListIn F n prog ops Q (o::rest) a w:=by
 obtain⟨A,c',w',he,h2,h3⟩:=Zec ho hs hx ht hi hz hsz hown hB hl h1 hn hby hbase
 exact inV hF hw (fun c e=>by rw[ho] at e;cases e) he (h A c' w' h2 h3)
theorem Zb1 {W:World} {B:Nat} {t:TypeId} {v:Value} (h:Boxed W B t v):Holds W B [v]:=by
 refine⟨fun j=>by simp[World.frozen?,show W.heap[B]? =_ from h],fun j u hu=> ?_⟩
 obtain rfl:j=0:=by
  have:=(List.getElem?_eq_some_iff.1 hu).1
  simpa using this
 obtain rfl:v=u:=by simpa using hu
 exact h.cell
theorem Zel {β:Type} (B:Nat) (t:TypeId) (v:Value):Own (fun (_:β) W=>Boxed W B t v):=by
 intro s X Y row hv hg hrow
 refine hv.kept hg (fun e'=> ?_)
 obtain⟨o,ho,hc⟩:=hrow B e'.symm
 rw[show X.heap[B]? =_ from hv] at ho;cases ho;cases hc
theorem ZdZ {X Y:World} {row:Option Nat} {b:Nat} {cs:List Value} (h:Holds X b cs) (hc:0<cs.length) (hg:X.grownBy Y row) (hrow: ∀r,row=some r-> ∃o:Obj,X.heap[r]? =some o/\o.isCells=false):Holds Y b cs:=by
 refine h.block (hg.block b (h.lt hc) (fun e'=> ?_))
 obtain⟨o,ho,hco⟩:=hrow b e'.symm
 have h0:=h.cell 0 (List.getElem?_eq_getElem hc)
 cases o<;>simp[World.cell?,ho] at h0<;>simp[Obj.isCells] at hco
theorem new_var (W:World) (c0 cs:List Value) (t:TypeId) (hc:cs.length<=c0.length) (he:Bz c0 0 cs=cs) (h0:0<c0.length):Below W.heap.size W ((W.alloc (Obj.cells c0.toArray t)).setCells W.heap.size 0 cs)/\Holds ((W.alloc (Obj.cells c0.toArray t)).setCells W.heap.size 0 cs) W.heap.size cs/\((W.alloc (Obj.cells c0.toArray t)).setCells W.heap.size 0 cs).heap.size=W.heap.size+1:=by
 refine⟨Lf (Nat.le_refl _) _ _ _ ((Below.refl _ _).alloc (Nat.le_refl _) _), ?_,by rw[Eu];simp⟩
 have:=(Holds.new W c0 t).put 0 cs (by omega)
 rw[he] at this
 exact this
theorem kb_t {n₀ Bn:Nat} {A B C:World} (h:Kb n₀ Bn A B) (k:Kb n₀ Bn B C):Kb n₀ Bn A C:=⟨h.1.trans k.1,k.2.trans h.2⟩
theorem kb_b {n₀ Bn:Nat} {w:World} (hn:n₀<=w.heap.size) (hB:Bn<w.heap.size) (W:World) (l:Nat) (o o':Obj) (hl:w.heap.size<=l) (h:W.heap[l]? =some o) (h1:o.isCells=false) (h2:o.isWalk=false):Kb n₀ Bn W (W.putObj l o'):=
 ⟨belowK_b hn W l o o' hl h h1 h2,by
  show (W.heap.setIfInBounds l o')[Bn]? =_
  rw[Array.getElem?_setIfInBounds_ne (by omega)]⟩
theorem Rf {w w':World} {base e size n:Nat} {v:Value} {xs:List Value} (h:w.ownsRow base e size v n xs) (he: ∀g,v.ownBlock=some g->w'.heap[g]? =w.heap[g]?):w'.ownsRow base e size v n xs:=by
 obtain⟨h1,h2⟩:=h
 refine⟨h1, ?_⟩
 rcases h2 with h2|⟨g,cap,cur,rfl,h3,h4,h5⟩
 ·exact .inl h2
 ·exact .inr ⟨g,cap,cur,rfl,h3,(he g rfl).trans h4,h5⟩
theorem ZcE (T:TT) (n:Nat) (hn:1<=n) (Bn n₀:Nat) (w:World) (hT:T.Is w) (hlast:T.last<4000000) (hlt: ∀b∈T.blocks,b<n₀) (hBs:Bn<w.heap.size) (hBn:w.cell? ⟨Bn,0,none⟩=some (.pointer (some ⟨T.t,0,none⟩))) (hn₀:n₀<=w.heap.size):
  SeqStopsK Fence.wide n prog 183 #[.pointer (some ⟨Bn,0,none⟩)] encP (Kb n₀ Bn) (fun ys=>ys=T.live.map RR.pr) (fun pre=>pre<+:T.live.map RR.pr) T.live.length w:=by
 intro l J Jx W hW hJ hJx hY h0
 exact each_in n hn l Bn n₀ T J Jx W hJ (hT.on hW) hlast hlt hY ((hW.cell (p:=⟨Bn,0,none⟩) hBs).trans hBn) h0 (by have:=hW.size;omega)
def ordK (l:List KK):List KK:=Jg (mg (ixs l))++Kd l++Kc l
theorem siz64:(prog.info? 62).map (·.size)=some 1:=by kernel_rfl
theorem keys28 (T:TT) (w:World) (hT:T.Is w) (hlast:T.last<4000000) (hl:T.live.length<=1500000) (hU:Lib.Utf8Tabs 1 2 w) (hP:TabL (T.live.map (·.k)) w):Calls prog 168 #[.pointer (some ⟨T.t,0,none⟩)] w fun e w'=> ∃v,e= .returned v/\OwnK w' w.heap.size v (ordK (T.live.map (·.k)))/\Below w.heap.size w w':=by
 refine(callsIn_wide (n:=4)).1 ?_
 have HL:=Ab (len30 T w hT)
 have HE:=Ab (fun X=>each41 T X)
 have HT:=Ab hT
 clear hT
 refine callsIn_of_wp_marks func168 rfl trivial ?_ rfl
 simp only[ntmps168,List.size_toArray,List.length_cons,List.length_nil,Nat.reduceAdd,Nat.reduceSub,Array.replicate_succ,Array.replicate_zero,List.push_toArray,List.append_toArray,List.nil_append,List.cons_append]
 gi_wp2_with fail
 refine⟨trivial,(callsIn_wide.2 (Aa HL)).mono ?_⟩
 rintro e w1 ⟨rfl,rfl⟩
 obtain⟨i0,hi,hz0,hz1,hz2⟩:=info_parts Jj
 obtain⟨wm,hrun,hm1,hm2⟩:=run_makeSlice_owned (P:=prog) w1 w1.heap.size 62 45 i0 _ 2 underlying62 hi hz0 hz1 .i64 .i64 T.live.length (by omega) (by rw[hz2];omega) (by unfold maxLen;omega) (Nat.le_refl _)
 gi_wp2_with fail
 refine⟨trivial,(callsIn_wide.2 ((Aa HE) _)).mono ?_⟩
 rintro e w2 ⟨rfl,rfl⟩
 have hms:=hm2.size
 have hbm:Below w1.heap.size w1 wm:=⟨hm2.os,hm2.tape,hm2.output,hm2.size,fun k hk=>hm2.block k hk (by simp)⟩
 have b3:Boxed (wm.alloc (.cells #[.slice (some ⟨w1.heap.size,0,none⟩) 0 T.live.length] 62)) wm.heap.size 62 (.slice (some ⟨w1.heap.size,0,none⟩) 0 T.live.length):=Boxed.new wm 62 _
 have bn:Boxed ((wm.alloc (.cells #[.slice (some ⟨w1.heap.size,0,none⟩) 0 T.live.length] 62)).alloc (.cells #[.pointer (some ⟨T.t,0,none⟩)] 121)) (wm.heap.size+1) 121 (.pointer (some ⟨T.t,0,none⟩)):=by
  have:=Boxed.new (wm.alloc (.cells #[.slice (some ⟨w1.heap.size,0,none⟩) 0 T.live.length] 62)) 121 (.pointer (some ⟨T.t,0,none⟩))
  rwa [World.size_alloc] at this
 have hB0:Below w1.heap.size w1 ((wm.alloc (.cells #[.slice (some ⟨w1.heap.size,0,none⟩) 0 T.live.length] 62)).alloc (.cells #[.pointer (some ⟨T.t,0,none⟩)] 121)):=(hbm.alloc hms _).alloc (by simp;omega) _
 have hT3:=(Aa HT).on hB0
 have hlt3:=(Aa HT).lt
 have HTT:=HT
 clear HL HE
 gi_wp2
 try simp only[World.size_alloc]
 refine wpIn_rangeFunc_ownH (α:=KK×DD) rfl (by omega) (gf:=183) (lb:= #[.pointer (some ⟨wm.heap.size+1,0,none⟩)]) rfl trivial (enters_of func183 (by kernel_rfl) rfl)
  (ZcE T 3 (by omega) (wm.heap.size+1) w1.heap.size _ hT3 hlast hlt3 (by simp) bn.cell (by simp;omega)) kb_t (kb_b (by simp;omega) (by simp)) (Below.refl _ _) (fun _=>rfl)
  (fun pre W=>(∃v,Boxed W wm.heap.size 62 v/\W.ownsRow w1.heap.size 45 2 v pre.length (flatK (pre.map (·.1)))/\True)/\Boxed W (wm.heap.size+1) 121 (.pointer (some ⟨T.t,0,none⟩))/\Below w1.heap.size w1 W)
  (fun _ _ _=>False)
  (OwnFrom.and (Own.from (holdsRow_own w1.heap.size wm.heap.size 62 45 2 (fun pre:List (KK×DD)=>pre.length) (fun pre=>flatK (pre.map (·.1))) (fun _ _=>True)) _) (OwnFrom.and (Own.from (Zel _ _ _) _) (ownFrom_below (Nat.le_refl _) (by simp;omega))))
  (fun _ _ _ _ _ hs _ _=>hs)
  ⟨⟨_,b3.alloc _,(hm1.alloc _).alloc _,trivial⟩,bn,hB0⟩
  (fun x a' W=> ∃Bk,a'={tmps:= #[.pointer (some ⟨T.t,0,none⟩),undef, .slice none 0 0, .pointer (some ⟨wm.heap.size,0,none⟩), .pointer (some ⟨Bk,0,none⟩), .pointer (some ⟨T.t,0,none⟩), .int .i64 T.live.length, .slice (some ⟨w1.heap.size,0,none⟩) 0 T.live.length, .pointer (some ⟨T.t,0,none⟩), .func (.func 183) #[] #[.pointer (some ⟨wm.heap.size+1,0,none⟩)],x.1.agg,x.2.agg,undef,undef,undef,undef,undef,undef,undef,undef,undef,undef],defers:= []}/\Holds W Bk x.1.cs)
  (fun x a' _ X Y row hs hg hr=>by
   obtain⟨Bk,h1,h2⟩:=hs
   exact⟨Bk,h1,ZdZ h2 (Nat.succ_pos _) hg (fun r e=>(hr r e).2)⟩)
  ?assign ?body ?done ?stop
 case assign=>
  intro l pre x W K hI hK
  simp only[encP]
  obtain⟨p1,p2,p3⟩:=new_var W Gv.cs x.1.cs 45 (Nat.le_refl _) rfl (Nat.succ_pos _)
  obtain⟨X1,hX1⟩: ∃X1,X1=(W.alloc (Obj.cells Gv.cs.toArray 45)).setCells W.heap.size 0 x.1.cs:=⟨_,rfl⟩
  rw[←hX1] at p1 p2 p3
  have HK:=Ab (hK)
  have hg2:W.grownBy X1 none:=Ed p1
  have hI2:Hid _:=Ab hI
  clear hK hI
  have ht:((#[10,11]:Array Tmp).zip #[x.1.agg,x.2.agg]).foldl (fun t x=>t.setIfInBounds x.1 x.2) (#[.pointer (some ⟨T.t,0,none⟩),undef, .slice none 0 0, .pointer (some ⟨wm.heap.size,0,none⟩),undef, .pointer (some ⟨T.t,0,none⟩), .int .i64 T.live.length, .slice (some ⟨w1.heap.size,0,none⟩) 0 T.live.length, .pointer (some ⟨T.t,0,none⟩), .func (.func 183) #[] #[.pointer (some ⟨wm.heap.size+1,0,none⟩)],undef,undef,undef,undef,undef,undef,undef,undef,undef,undef,undef,undef]:Array Value)= #[.pointer (some ⟨T.t,0,none⟩),undef, .slice none 0 0, .pointer (some ⟨wm.heap.size,0,none⟩),undef, .pointer (some ⟨T.t,0,none⟩), .int .i64 T.live.length, .slice (some ⟨w1.heap.size,0,none⟩) 0 T.live.length, .pointer (some ⟨T.t,0,none⟩), .func (.func 183) #[] #[.pointer (some ⟨wm.heap.size+1,0,none⟩)],x.1.agg,x.2.agg,undef,undef,undef,undef,undef,undef,undef,undef,undef,undef]:=by simp
  rw[ht]
  refine wpIn_region_lit ?_
  refine inV (fun _=>trivial) (by rfl) (by intro c h;cases h) (Zcy rfl) ?_
  simp only[nn]
  refine inS (fun _=>trivial) (by rfl) (by intro c h;cases h) (Gb (t:=45) (vs:=x.1.cs) rfl rfl rfl rfl (by simp[KK.cs,Value.oneCell']) Jr (Holds.new W Gv.cs 45) (Nat.le_refl _)) ?_
  rw[←hX1]
  simp only[nn]
  refine wpListIn_nil ?_
  obtain⟨⟨v,hv,hrow, -⟩,hbn,hB⟩:=Aa hI2
  have hsz:=hB.size
  exact(Aa HK) _ X1 (KeepsFrom.of_grownBy hg2 (fun j e=>by cases e)) ⟨p1.mono hsz,p1.block _ hbn.lt⟩ ⟨⟨v,hv.kept hg2 (by simp),Rf hrow (fun g hg=>p1.block g (World.ownsRow.lt hrow g hg).2),trivial⟩,hbn.kept hg2 (by simp),hB.trans (p1.mono hsz)⟩ ⟨W.heap.size,rfl,p2⟩
 case body=>
  rintro l pre x a' W hl2 hloop ⟨⟨v,hv,hrow, -⟩,hbn,hB⟩ ⟨Bk,rfl,hk⟩ hlen
  have Hk:=Ab hk
  have Hv:=Ab hv
  have Hrow:=Ab hrow
  have Hbn:=Ab hbn
  have HB:=Ab hB
  clear hk hv hrow hbn hB hloop
  refine wpIn_block ?_
  refine wpIn_region_lit ?_
  refine inV (fun _=>trivial) (by rfl) (by intro c h;cases h) (Gx (B:=wm.heap.size) (p:=0) (v:=v) 62 isAgg62 rfl rfl (Aa Hv).cell) ?_
  simp only[nn]
  refine inV (fun _=>trivial) (by rfl) (by intro c h;cases h) (Am (B:=Bk) (p:=0) (cs:=x.1.cs) (vs:=x.1.cs) 45 2 Gm Jr rfl rfl (Aa Hk) rfl rfl) ?_
  simp only[nn]
  refine inV (fun _=>trivial) (by rfl) (by intro c h;cases h) (Zy (t:=62) (e:=45) (v:= .agg x.1.cs.toArray) (cs:=x.1.cs) rfl rfl underlying62 Jj (by decide) rfl rfl (by decide)) ?_
  simp only[nn]
  refine appI (v:=v) (B:=W.heap.size) (m:=1) (c:=1) (fun _=>trivial) (by rfl) rfl rfl rfl underlying62 Jj rfl (by decide) ((Aa Hrow).alloc _) (Holds.new W x.1.cs 45) rfl (by simp[KK.cs,Value.oneCell']) (by omega) (by decide) (by have:=(Aa HB).size;simp;omega) ?_
  intro A c' w4 ho4 hg4
  have HA:=Ab ((Aa Hv).appended (by decide) (Aa Hrow) (Aa HB).size hms ho4 hg4)
  have HG:=Ab hg4
  clear ho4 hg4
  simp only[nn]
  refine inS (fun _=>trivial) (by rfl) (by intro c h;cases h) (Gb (t:=62) (b:=wm.heap.size) (p:=0) (cs:= [v]) (vs:= [.slice A (pre.length+1) c']) rfl rfl rfl rfl (by simp[Value.oneCell']) siz64 (Zb1 (Aa HA).1) (Nat.le_refl _)) ?_
  simp only[nn]
  refine wpListIn_nil ?_
  obtain⟨h1,h2,h3,h4,h5⟩:=Aa HA
  have hbn:=Aa Hbn
  have hB:=Aa HB
  have hne:some (wm.heap.size+1)≠v.ownBlock:=hbn.not_row (by decide) (Aa Hrow)
  have eb:(w4.setCell ⟨wm.heap.size,0,none⟩ (Value.slice A (pre.length+1) c')).heap[wm.heap.size+1]? =W.heap[wm.heap.size+1]? :=by
   rw[Below.heap_setCell _ _ _ _ (by show wm.heap.size+1≠wm.heap.size;omega),(Aa HG).block _ (by have:=hbn.lt;simp;omega) hne,Below.heap_alloc _ _ _ hbn.lt]
  refine⟨h4.from _,⟨h5,eb⟩,⟨⟨_,h2, ?_,trivial⟩,eb.trans hbn,hB.trans h5⟩⟩
  rw[List.map_append,Kn,show flatK (List.map (fun z:KK×DD=>z.1) [x])=x.1.cs from Zd4 x.1,List.length_append]
  exact h3
 case done=>
  rintro D ys W hD rfl ⟨⟨v,hv,hrow, -⟩,hbn,hB⟩ hK
  have hc:=hv.cell
  have hO:OwnK W w1.heap.size v (T.live.map (·.k)):=by
   unfold OwnK
   have e1:(T.live.map RR.pr).map (fun z:KK×DD=>z.1)=T.live.map (·.k):=by rw[List.map_map];rfl
   rw[e1] at hrow
   rw[List.length_map] at hrow ⊢
   exact hrow
  have hall:(T.live.map (·.k)).all goodK=true:=by
   rw[List.all_map,List.all_eq_true]
   intro r hr
   exact(Aa HT).good r hr
  have HC:=Ab (order8 v (T.live.map (·.k)) W (Mu hU (Rc hU) hB) (hP.on hB) hO.reads (by rw[List.length_map];exact hl))
  clear hO
  gi_wp2_with fail
  refine⟨trivial,(callsIn_wide.2 (Aa HC)).mono ?_⟩
  rintro e W5 ⟨v5,n5,rfl,hb5,hcase⟩
  rcases hcase with ⟨-,rfl,hO5⟩|⟨hbad, -, -⟩
  rotate_left
  ·rw[hall] at hbad;cases hbad
  obtain⟨L5,hL5⟩: ∃L5,L5=ordK (T.live.map (·.k)):=⟨_,rfl⟩
  replace hO5:OwnK W5 W.heap.size v5 L5:=hL5▸hO5
  have HL5:=Ab hL5
  clear hL5
  obtain⟨A5,c5,rfl⟩:=Jf hO5
  have hv5:Boxed W5 wm.heap.size 62 v:=(hb5.block _ hv.lt).trans hv
  have hc5:=hv5.cell
  have hf5:=hv5.frozen
  have hDl:D<W.heap.size:=(Array.getElem?_eq_some_iff.1 hK).1
  have hD2:wm.heap.size+1+1<=D:=by simpa using hD
  have HO5:=Ab hO5
  clear hO5 hall
  gi_wp2
  have hK5:(W5.setCell ⟨wm.heap.size,0,none⟩ (.slice A5 L5.length c5)).heap[D]? =some (.deferred (some [])):=by
   rw[Below.heap_setCell _ _ _ _ (by show D≠wm.heap.size;omega),hb5.block D hDl]
   exact hK
  have hO5:=Aa HO5
  have hBs:=hB.size
  refine⟨by simp, .inl ⟨_,_,rfl,run_takeDeferred hK5, ?_⟩⟩
  refine⟨_,results_tmp rfl _ _ _,_,rfl, ?_,((hB.trans (hb5.mono hBs)).setCell (p:=⟨wm.heap.size,0,none⟩) (by exact hms) _).trans (belowK_b (w:=w1) (Nat.le_refl _) _ D _ _ (by omega) hK5 rfl rfl)⟩
  rw[←Aa HL5]
  refine(hO5.mono hBs).block (fun g hg=> ?_)
  have hg2:=(hO5.own g hg)
  have e1: ∀(Z:World) (o':Obj),(Z.putObj D o').heap[g]? =Z.heap[g]? :=fun Z o'=>by
   show (Z.heap.setIfInBounds D o')[g]? =_
   rw[Array.getElem?_setIfInBounds_ne (by omega)]
  rw[e1,Below.heap_setCell _ _ _ _ (by have:=hv.lt;show g≠wm.heap.size;omega)]
 case stop=>
  rintro D c pre W _ _ h _
  exact h.elim
