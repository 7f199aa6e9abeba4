import Derived.Test.YthcmamjpfigdfaaGreatDoorQw
import Derived.RangeFuncKeeps
set_option linter.all false
namespace Go.Proofs.YthcmamjpfigdfaaGreatDoor
set_option maxRecDepth 100000
set_option maxHeartbeats 0
section
open Go Go.Proofs Go.Maps Go.RowKit Tryz
theorem isNaN82 (x:Nat) (w:World):Calls prog 178 #[.int .u64 x] w fun e w'=>e= .returned (.bool false)/\w'=w:=by
 go_enter func178,ntmps178
 go_wp2
 go_ret
 simp
theorem cmp71 (x y:Nat) (w:World):Calls prog 172 #[.int .u64 x, .int .u64 y] w fun e w'=>e= .returned (.int .i64 (if x<y then -1 else if y<x then 1 else 0))/\w'=w:=by
 have H1:=Ab (fun z:Nat=>isNaN82 z w)
 by_cases h1:x<y
 ·rw[if_pos h1]
  have h1':(x:Int)<(y:Int):=by omega
  go_enter func172,ntmps172
  go_wp2_with fail
  refine((Aa H1) x).mono ?_
  rintro _ _ ⟨rfl,rfl⟩
  go_wp2_with fail
  refine((Aa H1) y).mono ?_
  rintro _ _ ⟨rfl,rfl⟩
  go_wp2
  go_ret
  exact⟨rfl,rfl⟩
 ·rw[if_neg h1]
  have h1': ¬(x:Int)<(y:Int):=by omega
  by_cases h2:y<x
  ·rw[if_pos h2]
   have h2':(y:Int)<(x:Int):=by omega
   go_enter func172,ntmps172
   go_wp2_with fail
   refine((Aa H1) x).mono ?_
   rintro _ _ ⟨rfl,rfl⟩
   go_wp2_with fail
   refine((Aa H1) y).mono ?_
   rintro _ _ ⟨rfl,rfl⟩
   go_wp2
   go_ret
   exact⟨rfl,rfl⟩
  ·rw[if_neg h2]
   have h2': ¬(y:Int)<(x:Int):=by omega
   go_enter func172,ntmps172
   go_wp2_with fail
   refine((Aa H1) x).mono ?_
   rintro _ _ ⟨rfl,rfl⟩
   go_wp2_with fail
   refine((Aa H1) y).mono ?_
   rintro _ _ ⟨rfl,rfl⟩
   go_wp2
   go_ret
   exact⟨rfl,rfl⟩
def cu (x y:Nat):Int:=if x<y then -1 else if y<x then 1 else 0
theorem Za5 (r:RR) (y:Nat) (w:World) (h:Holds w r.b r.cs):Calls prog 167 #[.pointer (some ⟨r.b,0,none⟩), .int .u64 y] w fun e w'=>e= .returned (.int .i64 (cu r.n y))/\w'=w:=by
 have H1:Hid (Calls prog 172 #[.int .u64 r.n, .int .u64 y] w fun e w'=>e= .returned (.int .i64 (cu r.n y))/\w'=w):=Ab (cmp71 r.n y w)
 generalize cu r.n y=c at *
 have HR:=Ab h
 clear h
 go_enter func167,ntmps167
 go_wp2_with (first|go_skip|(refine rd rfl (Ad 114 isAgg114 rfl rfl (Aa HR) rfl) ?_))
 refine(Aa H1).mono ?_
 rintro _ _ ⟨rfl,rfl⟩
 go_wp2
 go_ret
 exact⟨rfl,rfl⟩
theorem Jn {o:Oper} {a:Act} {W:World} {x:Operand} {B p:Nat} {v:Value} (t:TypeId) (hna: ∀w,(isAgg t).run prog w= .ok false w) (ho:o.op= .load t x) (hx:a.eval x= .pointer (some ⟨B,p,none⟩)) (h0:W.cell? ⟨B,p,none⟩=some v):(execOp a.eval o).run prog W= .ok (.value v) W:=by
 unfold execOp
 simp only[ho,hx]
 simp[go_sem,h0,hna]
theorem index70 (g off n cap j:Nat) (hj:j<n) (w:World):(Instr.indexAt 191 (.slice (some ⟨g,off,none⟩) n cap) (.int .i64 j)).run prog w= .ok (.pointer (some ⟨g,off+j,none⟩)) w:=by
 rw[run_indexAt_slice (h:=by kernel_rfl),if_pos ⟨by omega,by omega⟩]
 have e:(sizeOf (prog.elem 191)).run prog w= .ok 1 w:=by kernel_rfl
 rw[e]
 have e2:(Addr.add ⟨g,off,none⟩ ((j:Int).toNat * 1))=⟨g,off+j,none⟩:=by
  rw[Addr.add_mid]
  simp
 show Result.ok (Value.pointer (some (Addr.add ⟨g,off,none⟩ ((j:Int).toNat * 1)))) w=_
 rw[e2]
theorem Uc {o:Oper} {a:Act} {w:World} {x ix:Operand} {g off n cap:Nat} (j:Nat) (ho:o.op= .indexAddr 191 x ix) (hx:a.eval x= .slice (some ⟨g,off,none⟩) n cap) (hix:a.eval ix= .int .i64 j) (hj:j<n):(execOp a.eval o).run prog w= .ok (.value (.pointer (some ⟨g,off+j,none⟩))) w:=by
 unfold execOp
 simp only[ho,hx,hix]
 have:=index70 g off n cap j hj w
 simp[this]
theorem OwnP.cell {W:World} {g cap n:Nat} {l:List Nat} (h:OwnP W (.slice (some ⟨g,0,none⟩) n cap) l) (j:Nat) (hj:j<l.length):W.cell? ⟨g,j,none⟩=some (.pointer (some ⟨l[j],0,none⟩)):=by
 rcases h.2 with ⟨h1, -⟩|⟨g',cap',cur,h1,h2,h3,h4,h5,h6,h7⟩
 ·cases h1
 ·cases h1
  have e:cur.toList[j]? =some (.pointer (some ⟨l[j],0,none⟩)):=by
   have h8:(cur.toList.take (l.length * 1))[j]? =(Pq l)[j]? :=by rw[h7]
   rw[List.getElem?_take,if_pos (by omega)] at h8
   rw[h8]
   simp[Pq,hj]
  have e2:cur[j]? =some (.pointer (some ⟨l[j],0,none⟩)):=by simpa using e
  simp[World.cell?,h3,e2]
theorem bs_rows (g cap y:Nat) (l:List RR) (w:World) (ho:OwnP w (.slice (some ⟨g,0,none⟩) l.length cap) (l.map (·.b))) (hr: ∀r∈l,Holds w r.b r.cs) (hs:l.Pairwise (fun a b=>a.n<b.n)) (hl:l.length<=4000000):
  Calls prog 166 #[.slice (some ⟨g,0,none⟩) l.length cap, .int .u64 y, .func (.func 167) #[] #[]] w fun e w'=> ∃(p:Nat) (f:Value),e= .returned (.tuple #[.int .i64 p,f])/\p<=l.length/\(∀t (h:t<l.length),t<p->l[t].n<y)/\(∀t (h:t<l.length),p<=t->y<=l[t].n)/\w'=w:=by
 have HO:=Ab ho
 have HR:=Ab hr
 have HS:=Ab hs
 clear ho hr hs
 go_enter func166,ntmps166
 go_wp2_with fail
 go_loopg [9,10,11] l.length (fun gm s9 s10 s11 wr=> ∃i j:Nat,s9= .int .i64 i/\s10= .int .i64 j/\i<=j/\j<=l.length/\j - i<=gm/\Hid ((∀t (h:t<l.length),t<i->l[t].n<y)/\(∀t (h:t<l.length),j<=t->y<=l[t].n))/\wr=w)
 case atStart=>exact⟨0,l.length,rfl,rfl,by omega,by omega,by omega,Ab ⟨fun t h h2=>by omega,fun t h h2=>by omega⟩,rfl⟩
 case round=>
  obtain⟨i,j,rfl,rfl,hij,hjl,hg,H3,rfl⟩:=hrel
  by_cases hlt:i<j
  ·have hlz:(i:Int)<j:=by omega
   have hm:(i+j) / 2<l.length:=by omega
   obtain⟨r,hr⟩: ∃r,r=l[(i+j) / 2]:=⟨_,rfl⟩
   have HC:Hid (wr.cell? ⟨g,(i+j) / 2,none⟩=some (.pointer (some ⟨r.b,0,none⟩))):=Ab (by
    have:=(Aa HO).cell ((i+j) / 2) (by simpa using hm)
    rw[this,hr];simp)
   have HB:=Ab (Za5 r y wr (Aa HR r (by rw[hr];exact List.getElem_mem hm)))
   by_cases hc:r.n<y
   ·have ec:cu r.n y= -1:=by unfold cu;rw[if_pos hc]
    rw[ec] at HB
    have HQ:Hid ((∀t (h:t<l.length),t<(i+j) / 2+1->l[t].n<y)/\(∀t (h:t<l.length),j<=t->y<=l[t].n)):=Ab ⟨fun t h h2=>(by
     rcases Nat.lt_or_ge t ((i+j) / 2) with h3|h3
     ·have h4:=(List.pairwise_iff_getElem.1 (Aa HS)) t ((i+j) / 2) h hm h3
      rw[←hr] at h4
      omega
     ·have h4:t=(i+j) / 2:=by omega
      subst h4
      rw[←hr];exact hc),(Aa H3).2⟩
    clear hr hc ec H3
    go_wp2_with (first|go_skip|(refine rd rfl (Jn 203 isAgg203 rfl rfl (Aa HC)) ?_))
    refine(Aa HB).mono ?_
    rintro _ _ ⟨rfl,rfl⟩
    go_wp2
    go_roundg (j - ((i+j) / 2+1))
    case measure=>omega
    case rel=>exact⟨(i+j) / 2+1,j,by first|rfl|(congr 1;omega),rfl,by omega,hjl,by omega,HQ,rfl⟩
   ·have ec: ¬cu r.n y<0:=by unfold cu;rw[if_neg hc];split<;>omega
    generalize cu r.n y=c at *
    have HQ:Hid ((∀t (h:t<l.length),t<i->l[t].n<y)/\(∀t (h:t<l.length),(i+j) / 2<=t->y<=l[t].n)):=Ab ⟨(Aa H3).1,fun t h h2=>(by
     rcases Nat.lt_or_ge ((i+j) / 2) t with h3|h3
     ·have h4:=(List.pairwise_iff_getElem.1 (Aa HS)) ((i+j) / 2) t hm h h3
      rw[←hr] at h4
      omega
     ·have h4:t=(i+j) / 2:=by omega
      subst h4
      rw[←hr];omega)⟩
    clear hr hc H3
    go_wp2_with (first|go_skip|(refine rd rfl (Jn 203 isAgg203 rfl rfl (Aa HC)) ?_))
    refine(Aa HB).mono ?_
    rintro _ _ ⟨rfl,rfl⟩
    go_wp2
    go_roundg ((i+j) / 2 - i)
    case measure=>omega
    case rel=>exact⟨i,(i+j) / 2,rfl,by first|rfl|(congr 1;omega),by omega,by omega,by omega,HQ,rfl⟩
  ·have hlz: ¬(i:Int)<j:=by omega
   have hij2:i=j:=by omega
   subst hij2
   by_cases he:i<l.length
   ·have hez:(i:Int)<l.length:=by omega
    obtain⟨r,hr⟩: ∃r,r=l[i]:=⟨_,rfl⟩
    have HC:Hid (wr.cell? ⟨g,i,none⟩=some (.pointer (some ⟨r.b,0,none⟩))):=Ab (by
     have:=(Aa HO).cell i (by simpa using he)
     rw[this,hr];simp)
    have HB:=Ab (Za5 r y wr (Aa HR r (by rw[hr];exact List.getElem_mem he)))
    generalize cu r.n y=c at *
    clear hr
    go_wp2_with (first|go_skip|(refine rd rfl (Jn 203 isAgg203 rfl rfl (Aa HC)) ?_))
    refine(Aa HB).mono ?_
    rintro _ _ ⟨rfl,rfl⟩
    go_wp2
    go_ret2
    exact⟨i,_,rfl,hjl,(Aa H3).1,(Aa H3).2,rfl⟩
   ·have hez: ¬(i:Int)<l.length:=by omega
    go_wp2
    go_ret2
    exact⟨i,⟨_,rfl⟩,hjl,(Aa H3).1,(Aa H3).2,rfl⟩
theorem bs_nil (y:Nat) (A:Option Addr) (cap:Nat) (w:World):
  Calls prog 166 #[.slice A 0 cap, .int .u64 y, .func (.func 167) #[] #[]] w fun e w'=> ∃(p:Nat) (f:Value),e= .returned (.tuple #[.int .i64 p,f])/\p=0/\w'=w:=by
 go_enter func166,ntmps166
 go_wp2_with fail
 go_loopg [9,10,11] 0 (fun gm s9 s10 s11 wr=>s9= .int .i64 0/\s10= .int .i64 0/\wr=w)
 case atStart=>exact⟨rfl,rfl,rfl⟩
 case round=>
  obtain⟨rfl,rfl,rfl⟩:=hrel
  go_wp2
  go_ret2
  exact⟨0,_,rfl,rfl,rfl⟩
theorem find_at {l:List RR} {P:RR->Bool} {j:Nat} (hj:j<l.length) (h:P l[j]=true) (hb: ∀t (ht:t<l.length),t<j->P l[t]=false):l.find? P=some l[j]:=by
 rw[List.find?_eq_some_iff_getElem]
 exact⟨h,j,hj,rfl,fun t ht=>by rw[hb t (by omega) ht];rfl⟩
theorem find_none {l:List RR} {P:RR->Bool} (hb: ∀t (ht:t<l.length),P l[t]=false):l.find? P=none:=by
 rw[List.find?_eq_none]
 intro x hx
 obtain⟨t,ht,rfl⟩:=List.getElem_of_mem hx
 rw[hb t ht]
 simp
def Ga (n:Nat) (r:RR):Bool:=decide (n<r.n) && !r.gone
def TT.next (T:TT) (n:Nat):Option RR:=T.rows.find? (Ga n)
theorem slice70 (g n cap p:Nat) (hp:p<=n) (hn:n<=cap) (w:World): ∃off,(n - p≠0->off=p)/\(Instr.sliceAt 191 (.slice (some ⟨g,0,none⟩) n cap) (some (.int .i64 (p:Nat))) none none).run prog w= .ok (.slice (some ⟨g,off,none⟩) (n - p) (cap - p)) w:=by
 refine⟨if cap=p then 0 else p,fun h=>by rw[if_neg (by omega)], ?_⟩
 rw[run_sliceAt_slice (h:=by kernel_rfl),run_slice_l (ht:=by kernel_rfl) (h0:=by omega) (h1:=by omega)]
 have e:(sizeOf (prog.elem 191)).run prog w= .ok 1 w:=by kernel_rfl
 rw[e]
 by_cases h0:p=0
 ·subst h0
  simp[sliced,Addr.add,Result.andThen]
 ·by_cases h1:cap=p
  ·simp[sliced,Addr.add,Result.andThen,h0,h1]
  ·simp[sliced,Addr.add,Result.andThen,h0,h1]
theorem ZcZ (w:World):(Instr.sliceAt 191 (.slice none 0 0) (some (.int .i64 (0:Nat))) none none).run prog w= .ok (.slice none 0 0) w:=by kernel_rfl
theorem ZaP {o:Oper} {a:Act} {w:World} {x ix:Operand} {v u:Value} {p:Nat} (ho:o.op= .slice 191 x (some ix) none none) (hx:a.eval x=v) (hix:a.eval ix= .int .i64 (p:Nat)) (h:(Instr.sliceAt 191 v (some (.int .i64 (p:Nat))) none none).run prog w= .ok u w):(execOp a.eval o).run prog w= .ok (.value u) w:=by
 unfold execOp
 simp only[ho,hx]
 simp[hix,h]
theorem Zf8 (T:TT) (n g cap:Nat) (w:World) (hT:T.Is w) (hl:T.last<=4000000) (hn:n<4000000) (hv:T.rv= .slice (some ⟨g,0,none⟩) T.rows.length cap) (hcap:T.rows.length<=cap):Calls prog 153 #[.pointer (some ⟨T.t,0,none⟩), .int .u64 n] w fun e w'=>e= .returned (pv ((T.next n).map (·.b)))/\w'=w:=by
 have hlen:=hT.len
 have HO:Hid (OwnP w (.slice (some ⟨g,0,none⟩) T.rows.length cap) (T.rows.map (·.b))):=Ab (hv▸hT.own)
 have HB:=Ab (bs_rows g cap (n+1) T.rows w (Aa HO) hT.rows hT.rise (by omega))
 have HS:=Ab (fun p hp=>slice70 g T.rows.length cap p hp hcap w)
 have hlen2:=Ab hlen
 have HT:=Ab hT
 have hl2:=Ab hl
 have hn2:=Ab hn
 have HV:Hid (Holds w T.t [.map (some T.m), .slice (some ⟨g,0,none⟩) T.rows.length cap, .int .u64 T.last]):=Ab (by have:=hT.tab;unfold TT.cs at this;rw[hv] at this;exact this)
 have HX:Hid (∀j,(hj:j<T.rows.length)->w.cell? ⟨g,j,none⟩=some (.pointer (some ⟨T.rows[j].b,0,none⟩))/\Holds w T.rows[j].b T.rows[j].cs):=Ab (fun j hj=>⟨by
  have:=(Aa HO).cell j (by simpa using hj)
  rw[this];simp,hT.rows _ (List.getElem_mem hj)⟩)
 unfold TT.next
 obtain⟨l,hle⟩: ∃l,l=T.rows:=⟨_,rfl⟩
 rw[←hle] at HB HS hlen2 HV HX HO ⊢
 clear hle hv hcap hT hlen hl hn HO
 go_enter func153,ntmps153
 go_wp2_with (first|go_skip|(refine rd rfl (Ad 191 isAgg191 rfl rfl (Aa HV) rfl) ?_)|(refine rd rfl (ZcH rfl rfl rfl (Aa hn2)) ?_))
 refine(Aa HB).mono ?_
 rintro _ w1 ⟨p,f,rfl,hp,h1,h2,rfl⟩
 obtain⟨off,ho,hs⟩:=(Aa HS) p hp
 have HX:=HX
 have H1:=Ab h1
 have H2:=Ab h2
 have HSl:=Ab hs
 have Ho:=Ab ho
 clear h1 h2 hs HS ho HB
 go_wp2_with (first|go_skip|(refine rd rfl (Ad 191 isAgg191 rfl rfl (Aa HV) rfl) ?_)|(refine rd rfl (ZaP rfl rfl rfl (Aa HSl)) ?_))
 go_loopg [26,8] l.length (fun gm s26 s8 wr=> ∃i:Nat,s26= .int .i64 i/\i<=l.length - p/\l.length - p - i<=gm/\Hid (∀t (h:t<l.length),p<=t->t<p+i->l[t].gone=true)/\wr=w1)
 case atStart=>exact⟨0,rfl,by omega,by omega,Ab (fun t h h2 h3=>by omega),rfl⟩
 case round=>
  obtain⟨i,rfl,hi,hg,H3,rfl⟩:=hrel
  have hL:l.length<=4000000:=by have a:=Aa hlen2;have b:=Aa hl2;omega
  have hiz:i<=4000000:=by omega
  by_cases hlt:i<l.length - p
  ·have hlz:(i:Int)<((l.length - p:Nat):Int):=by omega
   have hm:p+i<l.length:=by omega
   obtain⟨r,hr⟩: ∃r,r=l[p+i]:=⟨_,rfl⟩
   obtain⟨hc1,hc2⟩:=(Aa HX) (p+i) hm
   rw[←hr] at hc1 hc2
   have HC:Hid (wr.cell? ⟨g,off+i,none⟩=some (.pointer (some ⟨r.b,0,none⟩))):=Ab (by rw[(Aa Ho) (by omega)];exact hc1)
   have HR:=Ab hc2
   clear hc1 hc2
   cases hgn:r.gone with
   |true=>
    have HR2:Hid (Holds wr r.b (r.k.cs++(r.d.cs++ [.int .u64 r.n, .bool true]))):=Ab (hgn▸Aa HR)
    have HQ:Hid (∀t (h:t<l.length),p<=t->t<p+(i+1)->l[t].gone=true):=Ab (fun t h h2 h3=>by
     rcases Nat.lt_or_ge t (p+i) with h4|h4
     ·exact(Aa H3) t h h2 h4
     ·have h5:t=p+i:=by omega
      subst h5
      rw[←hr];exact hgn)
    clear hr hgn H3 HR
    go_wp2_with (first|go_skip|(refine rd rfl (Jn 203 isAgg203 rfl rfl (Aa HC)) ?_)|(refine rd rfl (Ad 4 isAgg4 rfl rfl (Aa HR2) rfl) ?_))
    go_roundg (l.length - p - (i+1))
    case measure=>omega
    case rel=>exact⟨i+1,by go_num,hlt,Nat.le_refl _,HQ,rfl⟩
   |false=>
    have HR2:Hid (Holds wr r.b (r.k.cs++(r.d.cs++ [.int .u64 r.n, .bool false]))):=Ab (hgn▸Aa HR)
    have hfnd:l.find? (Ga n)=some r:=by
     rw[hr]
     refine find_at hm ?_ (fun t ht h4=> ?_)
     ·have:=(Aa H2) (p+i) hm (by omega)
      rw[←hr] at this ⊢
      simp[Ga,hgn];omega
     ·rcases Nat.lt_or_ge t p with h5|h5
      ·have:=(Aa H1) t ht h5
       simp[Ga];omega
      ·have:=(Aa H3) t ht h5 h4
       simp[Ga,this]
    have HF:=Ab hfnd
    clear hr hgn H3 HR hfnd
    go_wp2_with (first|go_skip|(refine rd rfl (Jn 203 isAgg203 rfl rfl (Aa HC)) ?_)|(refine rd rfl (Ad 4 isAgg4 rfl rfl (Aa HR2) rfl) ?_))
    go_ret
    refine⟨?_,rfl⟩
    rw[Aa HF]
    rfl
  ·have hlz: ¬(i:Int)<((l.length - p:Nat):Int):=by omega
   have hfnd:l.find? (Ga n)=none:=by
    refine find_none (fun t ht=> ?_)
    rcases Nat.lt_or_ge t p with h5|h5
    ·have:=(Aa H1) t ht h5
     simp[Ga];omega
    ·have:=(Aa H3) t ht h5 (by omega)
     simp[Ga,this]
   have HF:=Ab hfnd
   clear hfnd
   go_wp2
   go_ret
   refine⟨?_,rfl⟩
   rw[Aa HF]
   rfl
theorem Zau (T:TT) (n:Nat) (w:World) (hT:T.Is w)  (hn:n<4000000) (hl:T.last<=4000000:=by omega):Calls prog 153 #[.pointer (some ⟨T.t,0,none⟩), .int .u64 n] w fun e w'=>e= .returned (pv ((T.next n).map (·.b)))/\w'=w:=by
 rcases hT.own.2 with ⟨h1,h2⟩|⟨g,cap,cur,h1,h2,h3,h4,h5⟩
 ·have hr:T.rows= []:=by simpa using h2
  have HV:Hid (Holds w T.t [.map (some T.m), .slice none 0 0, .int .u64 T.last]):=Ab (by have:=hT.tab;unfold TT.cs at this;rw[h1] at this;exact this)
  have HB:=Ab (bs_nil (n+1) none 0 w)
  have HS:=Ab (ZcZ w)
  have hn2:=Ab hn
  have HE:Hid (T.next n=none):=Ab (by unfold TT.next;rw[hr];rfl)
  clear hT hl hn h1 h2 hr
  go_enter func153,ntmps153
  go_wp2_with (first|go_skip|(refine rd rfl (Ad 191 isAgg191 rfl rfl (Aa HV) rfl) ?_)|(refine rd rfl (ZcH rfl rfl rfl (Aa hn2)) ?_))
  refine(Aa HB).mono ?_
  rintro _ w1 ⟨p,f,rfl,rfl,rfl⟩
  go_wp2_with (first|go_skip|(refine rd rfl (Ad 191 isAgg191 rfl rfl (Aa HV) rfl) ?_)|(refine rd rfl (ZaP rfl rfl rfl (Aa HS)) ?_))
  go_loopg [26,8] 0 (fun gm s26 s8 wr=>s26= .int .i64 0/\wr=w1)
  case atStart=>exact⟨rfl,rfl⟩
  case round=>
   obtain⟨rfl,rfl⟩:=hrel
   go_wp2
   go_ret
   refine⟨?_,rfl⟩
   rw[Aa HE]
   rfl
 ·have e:T.rv= .slice (some ⟨g,0,none⟩) T.rows.length cap:=by rw[h1];simp
  exact Zf8 T n g cap w hT hl hn e (by simpa using h4)
theorem Xv (m:Nat) (r:RR): ∀(l:List RR),l.Pairwise (fun a b=>a.n<b.n)->l.find? (Ga m)=some r->l.filter (Ga m)=r::l.filter (Ga r.n)
 | [],_,h=>by cases h
 |q::t,hp,h=>by
  obtain⟨h1,h2⟩:=List.pairwise_cons.1 hp
  by_cases hq:Ga m q=true
  ·rw[List.find?_cons_of_pos hq] at h
   obtain rfl:=Option.some.inj h
   have e0:Ga q.n q=false:=by simp[Ga]
   rw[List.filter_cons_of_pos hq,List.filter_cons_of_neg (by simp[e0])]
   congr 1
   apply List.filter_congr
   intro x hx
   have h3:=h1 x hx
   have h4:m<q.n:=by
    unfold Ga at hq
    simp at hq
    exact hq.1
   simp only[Ga]
   rw[decide_eq_true (by omega:m<x.n),decide_eq_true h3]
  ·rw[List.find?_cons_of_neg hq] at h
   have hr:r∈t:=List.mem_of_find?_eq_some h
   have h3:=h1 r hr
   rw[List.filter_cons_of_neg hq,Xv m r t h2 h,List.filter_cons_of_neg (by simp[Ga];omega)]
theorem Zdy (m:Nat) (l:List RR) (h:l.find? (Ga m)=none):l.filter (Ga m)= []:=by
 rw[List.filter_eq_nil_iff]
 exact List.find?_eq_none.1 h
theorem Zgj {T:TT} {W:World} (hT:T.Is W):T.rows.filter (Ga 0)=T.live:=by
 unfold TT.live
 apply List.filter_congr
 intro r hr
 have:=(hT.num r hr).1
 simp only[Ga]
 rw[decide_eq_true (by omega:0<r.n)]
 simp
theorem Zdi {T:TT} {m:Nat} {r:RR} (h:T.next m=some r):r∈T.rows/\m<r.n/\r.gone=false:=by
 have h1:=List.mem_of_find?_eq_some h
 have h2:=List.find?_some h
 simp[Ga] at h2
 exact⟨h1,h2⟩
def RR.pr (r:RR):KK×DD:=(r.k,r.d)
def encP (x:KK×DD):Array Value:= #[x.1.agg,x.2.agg]
def left (T:TT):Value->Nat
 | .pointer (some a)=>(match T.rows.find? (fun r=>r.b==a.block) with
  |some r=>(T.rows.filter (Ga r.n)).length+1
  |none=>0)
 |_=>0
theorem each41 (T:TT) (w:World):Calls prog 131 #[.pointer (some ⟨T.t,0,none⟩)] w fun e w'=>e= .returned (.func (.func 152) #[] #[.pointer (some ⟨w.heap.size,0,none⟩)])/\w'=w.alloc (Obj.cells #[.pointer (some ⟨T.t,0,none⟩)] 151):=by
 go_enter func131,ntmps131
 go_wp2
 go_ret
 exact⟨rfl,rfl⟩
section -- laws in the fence
variable {n:Nat} {md:Region.Mode} {ops:Array Oper} {Q:Exit->Act->World->Prop} {w:World} {fuel:Nat} {listed:Array Bool} {a:Act} {o:Oper}
theorem ip (i:Nat) (dst:Option Tmp) (v:Value) (hi:ops[i]? =some o)   
     (hy: ∀w,(execOp a.eval o).run prog w= .ok (.value v) w) (hab: ∀w,o.about prog w a.eval=none)
  (h:wpAnyIn Fence.wide n prog md ops Q fuel (listed.setIfInBounds i true) (a.put dst v) w) (hs:Region.noSelect ops=true:=by kernel_rfl) (hf:Region.free md ops listed i=true:=by kernel_rfl) (hr:(Region.ready md ops listed).contains i=true:=by kernel_rfl) (hQ: ∀c a w,Q (.panic c) (a.put dst v) w->Q (.panic c) a w:=by exact fun _ _ _ h=>h) (hd:o.dst=dst:=by kernel_rfl) (hw:Region.wanted o (yielded ops a.tmps)=true:=by kernel_rfl):wpAnyIn Fence.wide n prog md ops Q (fuel+1) listed a w:=by
 subst hd
 exact wpAnyIn_take rfl hi hs hf hr hQ ⟨Or.inl ⟨hw,hy⟩,hab⟩ h
theorem isk (i:Nat) (dst:Option Tmp) (hi:ops[i]? =some o)   
     (hab: ∀w,o.about prog w a.eval=none)
  (h:wpAnyIn Fence.wide n prog md ops Q fuel (listed.setIfInBounds i true) (a.put dst undef) w) (hs:Region.noSelect ops=true:=by kernel_rfl) (hf:Region.free md ops listed i=true:=by kernel_rfl) (hr:(Region.ready md ops listed).contains i=true:=by kernel_rfl) (hQ: ∀c a w,Q (.panic c) (a.put dst undef) w->Q (.panic c) a w:=by exact fun _ _ _ h=>h) (hd:o.dst=dst:=by kernel_rfl) (hw:Region.wanted o (yielded ops a.tmps)=false:=by kernel_rfl):wpAnyIn Fence.wide n prog md ops Q (fuel+1) listed a w:=by
 subst hd
 exact wpAnyIn_take rfl hi hs hf hr hQ ⟨Or.inr ⟨hw,rfl⟩,hab⟩ h
theorem Yy (i:Nat) (dst:Option Tmp) {V:Value} {rs:List Nat} (hi:ops[i]? =some o)   (he:(execOp a.eval o).run prog w= .ok (.value V) w)
  (h:wpAnyIn Fence.wide n prog md ops Q fuel (listed.setIfInBounds i true) (a.put dst V) w) (hs:AllReadyIn Fence.wide n prog md ops Q fuel listed a w rs) (hd:o.dst=dst:=by kernel_rfl) (hw:Region.wanted o (yielded ops a.tmps)=true:=by kernel_rfl):AllReadyIn Fence.wide n prog md ops Q fuel listed a w (i::rs):=by
 subst hd
 refine AllReadyIn.cons hi (fun K hK=> ?_) hs
 rw[if_pos hw]
 refine⟨fun _ _=>trivial, ?_⟩
 show o.uponIn Fence.wide n prog a K Q ((execOp a.eval o).run prog w)
 rw[he]
 exact hK _ _ h
theorem Zfs (i:Nat) (dst:Option Tmp) {f:FuncId} {args:Array Value} {R:Ending->World->Prop} {rs:List Nat} (hi:ops[i]? =some o)   
  (hC:Calls prog f args w R) (h: ∀e X,R e X-> ∃V,e= .returned V/\wpAnyIn Fence.wide n prog md ops Q fuel (listed.setIfInBounds i true) (a.put dst V) X) (hs:AllReadyIn Fence.wide n prog md ops Q fuel listed a w rs) (hd:o.dst=dst:=by kernel_rfl) (hw:Region.wanted o (yielded ops a.tmps)=true:=by kernel_rfl) (he:(execOp a.eval o).run prog w= .ok (.enter f args) w:=by kernel_rfl):AllReadyIn Fence.wide n prog md ops Q fuel listed a w (i::rs):=by
 subst hd
 refine AllReadyIn.cons hi (fun K hK=> ?_) hs
 rw[if_pos hw]
 refine⟨fun _ _=>trivial, ?_⟩
 show o.uponIn Fence.wide n prog a K Q ((execOp a.eval o).run prog w)
 rw[he,Oper.uponIn_enter]
 refine⟨(fun h=>by cases h),(callsIn_wide.2 hC).mono ?_⟩
 intro e X hR
 obtain⟨V,rfl,hV⟩:=h e X hR
 exact hK _ _ hV
theorem iround (i:Nat) (dst:Option Tmp) {l:Nat} {f:FuncId} {tmps:Array Value} {asg bd:Code} {R:Ending->World->Prop} {rs:List Nat} (hi:ops[i]? =some o)   (he:(execOp a.eval o).run prog w= .ok (.round l f tmps asg bd) w)
  (hC:RoundIn Fence.wide (n - 1) prog l f tmps asg bd w R) (h: ∀e X,R e X-> ∃V,e= .returned V/\wpAnyIn Fence.wide n prog md ops Q fuel (listed.setIfInBounds i true) (a.put dst V) X) (hs:AllReadyIn Fence.wide n prog md ops Q fuel listed a w rs) (hd:o.dst=dst:=by kernel_rfl) (hw:Region.wanted o (yielded ops a.tmps)=true:=by kernel_rfl):AllReadyIn Fence.wide n prog md ops Q fuel listed a w (i::rs):=by
 subst hd
 refine AllReadyIn.cons hi (fun K hK=> ?_) hs
 rw[if_pos hw]
 refine⟨fun _ _=>trivial, ?_⟩
 show o.uponIn Fence.wide n prog a K Q ((execOp a.eval o).run prog w)
 rw[he,Oper.uponIn_round]
 refine⟨(fun h=>by cases h),hC.mono ?_⟩
 intro e X hR
 obtain⟨V,rfl,hV⟩:=h e X hR
 exact hK _ _ hV
end
def Kb (n₀ Bn:Nat) (W W':World):Prop:=Below n₀ W W'/\W'.heap[Bn]? =W.heap[Bn]?
theorem Py {T:TT} {W:World} (hT:T.Is W) {r:RR} (hr:r∈T.rows):left T (.pointer (some ⟨r.b,0,none⟩))=(T.rows.filter (Ga r.n)).length+1:=by
 have hnd:=hT.nd
 simp only[TT.blocks,List.nodup_cons,List.mem_cons,List.mem_append,List.nodup_append,not_or] at hnd
 obtain⟨-, -, -,h7, -⟩:=hnd
 have e:T.rows.find? (fun q=>q.b==r.b)=some r:=by
  cases h:T.rows.find? (fun q=>q.b==r.b) with
  |none=>
   have:=List.find?_eq_none.1 h r hr
   simp at this
  |some q=>
   have h1:=List.mem_of_find?_eq_some h
   have h2:=List.find?_some h
   have e2:q.b=r.b:=by simpa using h2
   rcases List.getElem?_of_mem h1 with ⟨i,hi⟩
   rcases List.getElem?_of_mem hr with ⟨j,hj⟩
   have e3:(T.rows.map (·.b))[i]? =some r.b:=by simp[hi,e2]
   have e4:(T.rows.map (·.b))[j]? =some r.b:=by simp[hj]
   have hij:=(List.getElem?_inj (by simpa using (List.getElem?_eq_some_iff.1 hi).1) h7).1 (e3.trans e4.symm)
   subst hij
   rw[hi] at hj
   exact hj
 simp only[left,e]
theorem Qy {T:TT} {W:World} (hT:T.Is W) {m:Nat}:left T (pv ((T.next m).map (·.b)))=(T.rows.filter (Ga m)).length:=by
 cases h:T.next m with
 |none=>rw[Zdy m _ h];rfl
 |some r=>
  rw[Xv m r T.rows hT.rise h]
  exact Py hT (Zdi h).1
theorem each_in (n:Nat) (hn:1<=n) (l Bn n₀:Nat) (T:TT) (J Jx:List (KK×DD)->World->Prop)
  (W:World) (hAb:AbidesFrom W.heap.size J) (hT:T.Is W) (hlast:T.last<4000000) (hlt: ∀b∈T.blocks,b<n₀)
  (hY: ∀pre x W,J pre W->pre.length<T.live.length->YieldAt Fence.wide (n - 1) prog l (encP x) W fun e W'=>
   (e= .returned (.bool true)/\J (pre++ [x]) W'/\Kb n₀ Bn W W')∨(e= .returned (.bool false)/\Jx (pre++ [x]) W'))
  (hBn:W.cell? ⟨Bn,0,none⟩=some (.pointer (some ⟨T.t,0,none⟩))) (h0:J [] W) (hn₀:n₀<=W.heap.size):
  CallsIn Fence.wide n prog 152 #[.func (.yield l) #[] #[], .pointer (some ⟨Bn,0,none⟩)] W fun e W'=>(∃v,e= .returned v)/\
   ((∃ys,ys=T.live.map RR.pr/\J ys W')∨(∃pre,pre<+:T.live.map RR.pr/\Jx pre W')):=by
 have HN:=Ab (Zau T 0 W hT (by omega))
 refine callsIn_of_wp func152 rfl trivial ?_ rfl
 simp only[ntmps152,List.size_toArray,List.length_cons,List.length_nil,Nat.reduceAdd,Nat.reduceSub,Array.replicate_succ,Array.replicate_zero,List.push_toArray,List.append_toArray,List.nil_append,List.cons_append]
 gi_wp2_with fail
 refine⟨trivial,(callsIn_wide.2 (Aa HN)).mono ?_⟩
 rintro e w1 ⟨rfl,rfl⟩
 gi_wp2
 gi_loopw [3] (fun s3 wr=> ∃(pre:List (KK×DD)) (m:Nat),s3=pv ((T.next m).map (·.b))/\Hid (T.live.map RR.pr=pre++(T.rows.filter (Ga m)).map RR.pr)/\Hid (J pre wr)/\Hid (T.Is wr)/\wr.cell? ⟨Bn,0,none⟩=some (.pointer (some ⟨T.t,0,none⟩))/\Hid (n₀<=wr.heap.size/\w1.heap.size<=wr.heap.size/\m<=T.last)) (fun s3 _=>left T s3)
 case atStart=>
  exact⟨[],0,rfl,Ab (by rw[Zgj hT];rfl),Ab h0,Ab hT,hBn,Ab ⟨hn₀,Nat.le_refl _,Nat.zero_le _⟩⟩
 case round=>
  obtain⟨pre,m,rfl,HX,HJ,HT,hc,HZ⟩:=hrel
  have HY:=Ab hY
  have HAb:=Ab hAb
  clear hY hAb h0 hBn hT HN
  cases hnx:T.next m with
  |none=>
   rw[show pv ((none:Option RR).map (·.b))= .pointer none from rfl]
   gi_wp2
   refine wpIn_region_any (by kernel_rfl) ?_
   refine ip 0 (some 6) (.pointer none) rfl (fun _=>by kernel_rfl) (fun _=>by kernel_rfl) ?_
   simp only[nn]
   refine ip 1 (some 7) (.bool false) rfl (fun _=>by kernel_rfl) (fun _=>by kernel_rfl) ?_
   simp only[nn]
   refine ip 2 (some 8) (.bool false) rfl (fun _=>by kernel_rfl) (fun _=>by kernel_rfl) ?_
   simp only[nn]
   refine isk 3 (some 9) rfl (fun _=>by kernel_rfl) ?_
   simp only[nn]
   refine isk 4 (some 10) rfl (fun _=>by kernel_rfl) ?_
   simp only[nn]
   refine isk 5 (some 11) rfl (fun _=>by kernel_rfl) ?_
   simp only[nn]
   refine isk 6 (some 12) rfl (fun _=>by kernel_rfl) ?_
   simp only[nn]
   refine isk 7 (some 13) rfl (fun _=>by kernel_rfl) ?_
   simp only[nn]
   refine isk 8 (some 14) rfl (fun _=>by kernel_rfl) ?_
   simp only[nn]
   refine isk 9 (some 15) rfl (fun _=>by kernel_rfl) ?_
   simp only[nn]
   refine isk 10 (some 16) rfl (fun _=>by kernel_rfl) ?_
   simp only[nn]
   refine isk 11 (some 17) rfl (fun _=>by kernel_rfl) ?_
   simp only[nn]
   refine isk 12 (some 18) rfl (fun _=>by kernel_rfl) ?_
   simp only[nn]
   refine isk 13 (some 19) rfl (fun _=>by kernel_rfl) ?_
   simp only[nn]
   refine isk 14 (some 20) rfl (fun _=>by kernel_rfl) ?_
   simp only[nn]
   refine ip 15 (some 21) (.bool false) rfl (fun _=>by kernel_rfl) (fun _=>by kernel_rfl) ?_
   simp only[nn]
   refine wpAnyIn_done (by kernel_rfl) ?_ _
   try simp only[nn]
   gi_wp2
   go_end0
   refine⟨⟨_,rfl⟩, .inl ⟨pre, ?_, ?_⟩⟩
   ·rw[Aa HX,Zdy m _ hnx];simp
   ·exact(Aa HAb) pre wr wr.drew none (Aa HJ) (Eg ((Below.refl _ _).drew)) (fun r e=>by cases e)
  |some r=>
   rw[show pv ((some r:Option RR).map (·.b))= .pointer (some ⟨r.b,0,none⟩) from rfl]
   obtain⟨hrm,hrn,hrg⟩:=Zdi hnx
   have HR:=Ab ((Aa HT).rows r hrm)
   have hfc:=Xv m r T.rows (Aa HT).rise hnx
   have hlv:T.live.length=pre.length+((T.rows.filter (Ga r.n)).length+1):=by
    have:=congrArg List.length (Aa HX)
    rw[hfc] at this
    simpa using this
   have hJ1:=(Aa HAb) pre wr wr.drew none (Aa HJ) (Eg ((Below.refl _ _).drew)) (fun r e=>by cases e)
   obtain⟨fn,tmps,asg,bd,hy,hRd⟩:=(Aa HY) pre r.pr wr.drew hJ1 (by omega)
   have HRd:=Ab hRd
   have Hy:Hid ((Instr.yield l #[r.k.agg,r.d.agg]).run prog wr.drew= .ok (.round l fn tmps asg bd) wr.drew):=Ab hy
   have Hfc:=Ab hfc
   have Hrn:=Ab (And.intro hrm (And.intro hrn hrg))
   clear hRd hy hJ1 hfc hlv hrm hrn hrg
   gi_wp2
   refine wpIn_region_any (by kernel_rfl) ?_
   refine ip 0 (some 6) (.pointer (some ⟨r.b,0,none⟩)) rfl (fun _=>by kernel_rfl) (fun _=>by kernel_rfl) ?_
   simp only[nn]
   refine ip 1 (some 7) (.bool true) rfl (fun _=>by kernel_rfl) (fun _=>by kernel_rfl) ?_
   simp only[nn]
   refine ip 2 (some 8) (.bool true) rfl (fun _=>by kernel_rfl) (fun _=>by kernel_rfl) ?_
   simp only[nn]
   refine ip 3 (some 9) (.func (.yield l) #[] #[]) rfl (fun _=>by kernel_rfl) (fun _=>by kernel_rfl) ?_
   simp only[nn]
   refine ip 4 (some 10) (.pointer (some ⟨r.b,0,none⟩)) rfl (fun _=>by kernel_rfl) (fun _=>by kernel_rfl) ?_
   simp only[nn]
   refine ip 5 (some 11) (.pointer (some ⟨r.b,0,none⟩)) rfl (fun _=>by kernel_rfl) (fun _=>by kernel_rfl) ?_
   simp only[nn]
   refine ip 6 (some 12) (.pointer (some ⟨r.b,0,none⟩)) rfl (fun _=>by kernel_rfl) (fun _=>by kernel_rfl) ?_
   simp only[nn]
   refine ip 7 (some 13) (.pointer (some ⟨r.b,0,none⟩)) rfl (fun _=>by kernel_rfl) (fun _=>by kernel_rfl) ?_
   simp only[nn]
   refine ip 9 (some 15) (.pointer (some ⟨r.b,0,none⟩)) rfl (fun _=>by kernel_rfl) (fun _=>by kernel_rfl) ?_
   simp only[nn]
   refine ip 10 (some 16) (.pointer (some ⟨r.b,0,none⟩)) rfl (fun _=>by kernel_rfl) (fun _=>by kernel_rfl) ?_
   simp only[nn]
   refine ip 11 (some 17) (.pointer (some ⟨r.b,0,none⟩)) rfl (fun _=>by kernel_rfl) (fun _=>by kernel_rfl) ?_
   simp only[nn]
   refine ip 12 (some 18) (.pointer (some ⟨r.b,2,none⟩)) rfl (fun _=>by kernel_rfl) (fun _=>by kernel_rfl) ?_
   simp only[nn]
   refine wpAnyIn_ready (rs:= [8,13]) (by kernel_rfl) (by simp) (Yy 8 (some 14) rfl (Af (vs:=r.k.cs) 37 2 Jh Kh rfl rfl ((Holds.block (Aa HR) rfl)) rfl rfl) ?_ (Yy 13 (some 19) rfl (Af (vs:=r.d.cs) 43 18 Zag Pm rfl rfl ((Holds.block (Aa HR) rfl)) rfl rfl) ?_ AllReadyIn.nil))
   ·simp only[nn]
    refine wpAnyIn_ready (rs:= [13]) (by kernel_rfl) (by simp) (Yy 13 (some 19) rfl (Af (vs:=r.d.cs) 43 18 Zag Pm rfl rfl ((Holds.block (Aa HR) rfl)) rfl rfl) ?_ AllReadyIn.nil)
    simp only[nn]
    refine wpAnyIn_ready (rs:= [14]) (by kernel_rfl) (by simp) (iround 14 (some 20) rfl (Eq.trans (b:=(Instr.yield l #[r.k.agg,r.d.agg]).run prog wr.drew) (by kernel_rfl) (Aa Hy)) (Aa HRd) ?_ AllReadyIn.nil)
    rintro e W3 (⟨rfl,hJ3,hb3⟩|⟨rfl,hJx3⟩)
    ·refine⟨_,rfl, ?_⟩
     simp only[nn]
     refine ip 15 (some 21) (.bool true) rfl (fun _=>by kernel_rfl) (fun _=>by kernel_rfl) ?_
     simp only[nn]
     refine wpAnyIn_done (by kernel_rfl) ?_ _
     try simp only[nn]
     have HT3:=Ab ((Aa HT).block (fun b hb=>hb3.1.block b (hlt b hb)))
     have hc3:W3.cell? ⟨Bn,0,none⟩=some (.pointer (some ⟨T.t,0,none⟩)):=(World.cell?_of_block (a:=⟨Bn,0,none⟩) hb3.2).trans hc
     have HJ3:=Ab hJ3
     have Hs3:=Ab hb3.1.size
     clear hJ3 hb3
     gi_wp2
     refine wpIn_region_any (by kernel_rfl) ?_
     refine ip 1 (some 23) (.pointer (some ⟨r.b,0,none⟩)) rfl (fun _=>by kernel_rfl) (fun _=>by kernel_rfl) ?_
     simp only[nn]
     refine ip 2 (some 24) (.pointer (some ⟨r.b,0,none⟩)) rfl (fun _=>by kernel_rfl) (fun _=>by kernel_rfl) ?_
     simp only[nn]
     refine ip 3 (some 25) (.pointer (some ⟨r.b,20,none⟩)) rfl (fun _=>by kernel_rfl) (fun _=>by kernel_rfl) ?_
     simp only[nn]
     refine wpAnyIn_ready (rs:= [0,4]) (by kernel_rfl) (by simp) (Yy 0 (some 22) rfl (Jn (W:=W3.drew) 151 isAgg151 rfl rfl hc3) ?_ (Yy 4 (some 26) rfl (Ad 114 isAgg114 rfl rfl ((Holds.block ((Aa HT3).rows r (Aa Hrn).1) rfl:Holds W3.drew r.b r.cs)) rfl) ?_ AllReadyIn.nil))
     ·simp only[nn]
      refine wpAnyIn_ready (rs:= [4]) (by kernel_rfl) (by simp) (Yy 4 (some 26) rfl (Ad 114 isAgg114 rfl rfl ((Holds.block ((Aa HT3).rows r (Aa Hrn).1) rfl:Holds W3.drew r.b r.cs)) rfl) ?_ AllReadyIn.nil)
      simp only[nn]
      refine wpAnyIn_ready (rs:= [5]) (by kernel_rfl) (by simp) (Zfs 5 (some 27) rfl (Zau T r.n W3.drew (Aa HT3).drew (by have:=((Aa HT3).num r (Aa Hrn).1).2;omega)) ?_ AllReadyIn.nil)
      rintro e X ⟨rfl,rfl⟩
      refine⟨_,rfl, ?_⟩
      simp only[nn]
      refine ip 6 (some 3) (pv ((T.next r.n).map (·.b))) rfl (fun _=>by kernel_rfl) (fun _=>by kernel_rfl) ?_
      simp only[nn]
      refine wpAnyIn_done (by kernel_rfl) ?_ _
      try simp only[nn]
      gi_wp2
      go_roundw
      case rel=>
       refine⟨pre++ [r.pr],r.n,rfl,Ab ?_,Ab ?_,Ab (Aa HT3).drew,hc3,Ab ?_⟩
       ·rw[Aa HX,Aa Hfc];simp
       ·exact(Aa HAb) _ W3 W3.drew none (Aa HJ3) (Eg ((Below.refl _ _).drew)) (fun r e=>by cases e)
       ·have h1:=Aa HZ;have h2:wr.heap.size<=W3.heap.size:=Aa Hs3;have h3:=((Aa HT3).num r (Aa Hrn).1).2;exact⟨Nat.le_trans h1.1 h2,Nat.le_trans h1.2.1 h2,h3⟩
      case measure=>
       rw[Qy (Aa HT3),Py (Aa HT3) (Aa Hrn).1]
       exact Nat.lt_succ_self _
     ·simp only[nn]
      refine wpAnyIn_ready (rs:= [0]) (by kernel_rfl) (by simp) (Yy 0 (some 22) rfl (Jn (W:=W3.drew) 151 isAgg151 rfl rfl hc3) ?_ AllReadyIn.nil)
      simp only[nn]
      refine wpAnyIn_ready (rs:= [5]) (by kernel_rfl) (by simp) (Zfs 5 (some 27) rfl (Zau T r.n W3.drew (Aa HT3).drew (by have:=((Aa HT3).num r (Aa Hrn).1).2;omega)) ?_ AllReadyIn.nil)
      rintro e X ⟨rfl,rfl⟩
      refine⟨_,rfl, ?_⟩
      simp only[nn]
      refine ip 6 (some 3) (pv ((T.next r.n).map (·.b))) rfl (fun _=>by kernel_rfl) (fun _=>by kernel_rfl) ?_
      simp only[nn]
      refine wpAnyIn_done (by kernel_rfl) ?_ _
      try simp only[nn]
      gi_wp2
      go_roundw
      case rel=>
       refine⟨pre++ [r.pr],r.n,rfl,Ab ?_,Ab ?_,Ab (Aa HT3).drew,hc3,Ab ?_⟩
       ·rw[Aa HX,Aa Hfc];simp
       ·exact(Aa HAb) _ W3 W3.drew none (Aa HJ3) (Eg ((Below.refl _ _).drew)) (fun r e=>by cases e)
       ·have h1:=Aa HZ;have h2:wr.heap.size<=W3.heap.size:=Aa Hs3;have h3:=((Aa HT3).num r (Aa Hrn).1).2;exact⟨Nat.le_trans h1.1 h2,Nat.le_trans h1.2.1 h2,h3⟩
      case measure=>
       rw[Qy (Aa HT3),Py (Aa HT3) (Aa Hrn).1]
       exact Nat.lt_succ_self _
    ·refine⟨_,rfl, ?_⟩
     simp only[nn]
     refine ip 15 (some 21) (.bool false) rfl (fun _=>by kernel_rfl) (fun _=>by kernel_rfl) ?_
     simp only[nn]
     refine wpAnyIn_done (by kernel_rfl) ?_ _
     try simp only[nn]
     have HJx:=Ab hJx3
     clear hJx3
     gi_wp2
     go_end0
     refine⟨⟨_,rfl⟩, .inr ⟨pre++ [r.pr], ?_,Aa HJx⟩⟩
     rw[Aa HX,Aa Hfc]
     exact⟨(T.rows.filter (Ga r.n)).map RR.pr,by simp⟩
   ·simp only[nn]
    refine wpAnyIn_ready (rs:= [8]) (by kernel_rfl) (by simp) (Yy 8 (some 14) rfl (Af (vs:=r.k.cs) 37 2 Jh Kh rfl rfl ((Holds.block (Aa HR) rfl)) rfl rfl) ?_ AllReadyIn.nil)
    simp only[nn]
    refine wpAnyIn_ready (rs:= [14]) (by kernel_rfl) (by simp) (iround 14 (some 20) rfl (Eq.trans (b:=(Instr.yield l #[r.k.agg,r.d.agg]).run prog wr.drew) (by kernel_rfl) (Aa Hy)) (Aa HRd) ?_ AllReadyIn.nil)
    rintro e W3 (⟨rfl,hJ3,hb3⟩|⟨rfl,hJx3⟩)
    ·refine⟨_,rfl, ?_⟩
     simp only[nn]
     refine ip 15 (some 21) (.bool true) rfl (fun _=>by kernel_rfl) (fun _=>by kernel_rfl) ?_
     simp only[nn]
     refine wpAnyIn_done (by kernel_rfl) ?_ _
     try simp only[nn]
     have HT3:=Ab ((Aa HT).block (fun b hb=>hb3.1.block b (hlt b hb)))
     have hc3:W3.cell? ⟨Bn,0,none⟩=some (.pointer (some ⟨T.t,0,none⟩)):=(World.cell?_of_block (a:=⟨Bn,0,none⟩) hb3.2).trans hc
     have HJ3:=Ab hJ3
     have Hs3:=Ab hb3.1.size
     clear hJ3 hb3
     gi_wp2
     refine wpIn_region_any (by kernel_rfl) ?_
     refine ip 1 (some 23) (.pointer (some ⟨r.b,0,none⟩)) rfl (fun _=>by kernel_rfl) (fun _=>by kernel_rfl) ?_
     simp only[nn]
     refine ip 2 (some 24) (.pointer (some ⟨r.b,0,none⟩)) rfl (fun _=>by kernel_rfl) (fun _=>by kernel_rfl) ?_
     simp only[nn]
     refine ip 3 (some 25) (.pointer (some ⟨r.b,20,none⟩)) rfl (fun _=>by kernel_rfl) (fun _=>by kernel_rfl) ?_
     simp only[nn]
     refine wpAnyIn_ready (rs:= [0,4]) (by kernel_rfl) (by simp) (Yy 0 (some 22) rfl (Jn (W:=W3.drew) 151 isAgg151 rfl rfl hc3) ?_ (Yy 4 (some 26) rfl (Ad 114 isAgg114 rfl rfl ((Holds.block ((Aa HT3).rows r (Aa Hrn).1) rfl:Holds W3.drew r.b r.cs)) rfl) ?_ AllReadyIn.nil))
     ·simp only[nn]
      refine wpAnyIn_ready (rs:= [4]) (by kernel_rfl) (by simp) (Yy 4 (some 26) rfl (Ad 114 isAgg114 rfl rfl ((Holds.block ((Aa HT3).rows r (Aa Hrn).1) rfl:Holds W3.drew r.b r.cs)) rfl) ?_ AllReadyIn.nil)
      simp only[nn]
      refine wpAnyIn_ready (rs:= [5]) (by kernel_rfl) (by simp) (Zfs 5 (some 27) rfl (Zau T r.n W3.drew (Aa HT3).drew (by have:=((Aa HT3).num r (Aa Hrn).1).2;omega)) ?_ AllReadyIn.nil)
      rintro e X ⟨rfl,rfl⟩
      refine⟨_,rfl, ?_⟩
      simp only[nn]
      refine ip 6 (some 3) (pv ((T.next r.n).map (·.b))) rfl (fun _=>by kernel_rfl) (fun _=>by kernel_rfl) ?_
      simp only[nn]
      refine wpAnyIn_done (by kernel_rfl) ?_ _
      try simp only[nn]
      gi_wp2
      go_roundw
      case rel=>
       refine⟨pre++ [r.pr],r.n,rfl,Ab ?_,Ab ?_,Ab (Aa HT3).drew,hc3,Ab ?_⟩
       ·rw[Aa HX,Aa Hfc];simp
       ·exact(Aa HAb) _ W3 W3.drew none (Aa HJ3) (Eg ((Below.refl _ _).drew)) (fun r e=>by cases e)
       ·have h1:=Aa HZ;have h2:wr.heap.size<=W3.heap.size:=Aa Hs3;have h3:=((Aa HT3).num r (Aa Hrn).1).2;exact⟨Nat.le_trans h1.1 h2,Nat.le_trans h1.2.1 h2,h3⟩
      case measure=>
       rw[Qy (Aa HT3),Py (Aa HT3) (Aa Hrn).1]
       exact Nat.lt_succ_self _
     ·simp only[nn]
      refine wpAnyIn_ready (rs:= [0]) (by kernel_rfl) (by simp) (Yy 0 (some 22) rfl (Jn (W:=W3.drew) 151 isAgg151 rfl rfl hc3) ?_ AllReadyIn.nil)
      simp only[nn]
      refine wpAnyIn_ready (rs:= [5]) (by kernel_rfl) (by simp) (Zfs 5 (some 27) rfl (Zau T r.n W3.drew (Aa HT3).drew (by have:=((Aa HT3).num r (Aa Hrn).1).2;omega)) ?_ AllReadyIn.nil)
      rintro e X ⟨rfl,rfl⟩
      refine⟨_,rfl, ?_⟩
      simp only[nn]
      refine ip 6 (some 3) (pv ((T.next r.n).map (·.b))) rfl (fun _=>by kernel_rfl) (fun _=>by kernel_rfl) ?_
      simp only[nn]
      refine wpAnyIn_done (by kernel_rfl) ?_ _
      try simp only[nn]
      gi_wp2
      go_roundw
      case rel=>
       refine⟨pre++ [r.pr],r.n,rfl,Ab ?_,Ab ?_,Ab (Aa HT3).drew,hc3,Ab ?_⟩
       ·rw[Aa HX,Aa Hfc];simp
       ·exact(Aa HAb) _ W3 W3.drew none (Aa HJ3) (Eg ((Below.refl _ _).drew)) (fun r e=>by cases e)
       ·have h1:=Aa HZ;have h2:wr.heap.size<=W3.heap.size:=Aa Hs3;have h3:=((Aa HT3).num r (Aa Hrn).1).2;exact⟨Nat.le_trans h1.1 h2,Nat.le_trans h1.2.1 h2,h3⟩
      case measure=>
       rw[Qy (Aa HT3),Py (Aa HT3) (Aa Hrn).1]
       exact Nat.lt_succ_self _
    ·refine⟨_,rfl, ?_⟩
     simp only[nn]
     refine ip 15 (some 21) (.bool false) rfl (fun _=>by kernel_rfl) (fun _=>by kernel_rfl) ?_
     simp only[nn]
     refine wpAnyIn_done (by kernel_rfl) ?_ _
     try simp only[nn]
     have HJx:=Ab hJx3
     clear hJx3
     gi_wp2
     go_end0
     refine⟨⟨_,rfl⟩, .inr ⟨pre++ [r.pr], ?_,Aa HJx⟩⟩
     rw[Aa HX,Aa Hfc]
     exact⟨(T.rows.filter (Ga r.n)).map RR.pr,by simp⟩
