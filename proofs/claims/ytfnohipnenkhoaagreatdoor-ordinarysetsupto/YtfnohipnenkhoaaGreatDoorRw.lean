import Derived.Test.YtfnohipnenkhoaaGreatDoorRv
set_option linter.all false
namespace Go.Proofs.YtfnohipnenkhoaaGreatDoor
set_option maxRecDepth 100000
set_option maxHeartbeats 0
section
open Go Go.Proofs Go.Maps Go.RowKit FM Tryz
attribute [local go_sem] Am Al Ar Ah Ao Ai Aw Do Dn Bq Aj Bo
theorem Sy.nilRow {w X:World} {E:List Nat} {L:List Ob} (h:Sy w X E L) (base e s:Nat):Sy w X E (L++ [Eg base e s (.slice none 0 0) 0 []]):=Sy.add h (Qp _ _ _ _ _ _) ⟨by simp, .inl ⟨rfl,rfl⟩⟩ (Below.refl _ _) (fun b hb=>by simp[Eg,Value.ownBlock] at hb)
theorem Me (t:AT):Bw (actC Lo) 0 (actC t)=actC t:=by kernel_rfl
theorem Zl {ts:List AT} {i:Nat} {t:AT} (h:ts[i]? =some t):(ts.take (i+1)).filter knB=(ts.take i).filter knB++(if knB t then [t] else []):=by
 rw[List.take_add_one,h,List.filter_append]
 by_cases hk:knB t=true<;>simp[hk]
theorem known_w (c f d:Int) (A:Option Addr) (cp:Nat) (ts:List AT) (w:World) (hz:ts.length<=1000000) (hone: ∀t∈ts,∀u∈actC t,u.oneCell'=true) (hR:ReadsG actC 59 w A ts):Calls prog 6 #[.agg (Oh c f d (.slice A ts.length cp)).toArray] w fun e w'=> ∃A1 c1,e= .returned (.agg (Oh c f d (.slice A1 (ts.filter knB).length c1)).toArray)/\w'.ownsRow w.heap.size 59 59 (.slice A1 (ts.filter knB).length c1) (ts.filter knB).length ((ts.filter knB).flatMap actC)/\Below w.heap.size w w':=by
 have SS:=Ab (Sy.nil w [])
 go_enter func6,ntmps6
 go_wp2_with (first|go_skip|((with_reducible show wpList ..);first|((with_reducible show qI ..);(refine zB 24 (Oh c f d (.slice A ts.length cp)) (by rfl) rfl rfl rfl SS ?_;clear SS;intro Xa Ba SS;simp only[nn]))|((with_reducible show qF ..);(refine zA 24 (Oh 0 0 0 (.slice none 0 0)) (by rfl) rfl SS ?_;clear SS;intro Xb Bb SS;simp only[nn]))))
 replace SS:=Ab (Sy.nilRow (Aa SS) w.heap.size 59 59)
 go_loopg [3,4] ts.length (fun gm s3 s4 wr=> ∃(i:Nat) (A1:Option Addr) (c1 k:Nat),s3= .slice A1 k c1/\s4= .int .i64 (i:Nat)/\i<=ts.length/\ts.length - i<=gm/\Hid (((ts.take i).filter knB).length=k)/\Hid (Sy w wr [] [Aq Ba (Oh c f d (.slice A ts.length cp)),Aq Bb (Oh 0 0 0 (.slice none 0 0)),Eg w.heap.size 59 59 (.slice A1 k c1) k (((ts.take i).filter knB).flatMap actC)]))
 case atStart=>exact⟨0,none,0,0,rfl,rfl,by omega,by omega,Ab rfl,SS⟩
 case round=>
  clear SS
  obtain⟨i,A1,c1,k,rfl,rfl,hil,hgm,HK,SS⟩:=hrel
  by_cases hlt:i<ts.length
  ·have dlt:decide ((i:Int)<(ts.length:Int))=true:=decide_eq_true (by omega)
   have hw1:IntKind.i64.wrap ((i:Int)+1)=(i:Int)+1:=by rw[IntKind.wrap_i64];omega
   obtain⟨t,hx⟩: ∃t,ts[i]? =some t:=⟨_,List.getElem?_eq_getElem hlt⟩
   have HM:=Ab (List.mem_of_getElem? hx)
   have HKK:Hid (k<=1000000):=Ab (by have:=List.length_filter_le knB (ts.take i);have h2:=List.length_take_le i ts;have:=Aa HK;omega)
   obtain⟨b,off,hA,hb,hr⟩:=hR i t hx
   subst hA
   have HA2:Hid (∀X,Below w.heap.size w X->X.rangeAt b (off+i * 59) (actC t)):=Ab (fun X hX=>Dj hr hb hX)
   have HLT:=Ab hlt
   clear hlt hil hr hb
   by_cases h71:t.W=71
   ·have H71:decide (t.W=71)=true:=decide_eq_true h71
    clear h71
    have HB:knB t=true:=by simp only[knB,H71];rfl
    have HT:Hid ((ts.take (i+1)).filter knB=(ts.take i).filter knB++ [t]):=Ab (by have h:=Zl hx;rw[HB,if_pos rfl] at h;exact h)
    clear HB
    go_wp2_with (first|go_skip|((with_reducible show wpList ..);first|((with_reducible show qA ..);(refine rd rfl (Ad 22 isAgg22 rfl rfl ((Aa SS).hold 0 rfl) rfl) ?_))|((with_reducible show qD ..);(refine rd rfl (Bi 22 59 underlying22 rfl rfl) ?_))|((with_reducible show qG ..);(refine rd rfl (Az 22 59 i Zb5 ZcA rfl rfl rfl (Aa HLT)) ?_))|((with_reducible show qA ..);(refine rd rfl (By (vs:=actC t) 59 59 rwT szT rfl rfl (Aa HA2 _ (Aa SS).fr.below) rfl) ?_))|((with_reducible show qF ..);((refine alS (v:= .agg (actC Lo).toArray) 59 (actC Lo) (by rfl) rfl (fun w=>by kernel_rfl) rfl (Nat.succ_pos _) (Aa SS) ?_);intro Xt Bt hEt Lt hbt;replace SS:=Ab Lt;clear Lt hbt hEt;simp only[nn]))|((with_reducible show qE ..);((refine stS (vs:=actC t) 3 59 (by rfl) rfl rfl rfl rfl (hone t (Aa HM)) szT (Aa SS) rfl (by show 0+59<=59;omega) ?_);intro Xs Ls hfs hss;rw[Me] at Ls;replace SS:=Ab Ls;clear Ls hfs hss;simp only[nn]))|((with_reducible show qA ..);(refine rd rfl (Ad 3 isAgg3 rfl rfl ((Aa SS).hold 3 rfl) rfl) ?_))|((with_reducible show qA ..);(refine rd rfl (Af (vs:=actC t) 59 59 rwT szT rfl rfl ((Aa SS).hold 3 rfl) rfl rfl) ?_))|((with_reducible show qH ..);((refine bsS (cs:=actC t) (by rfl) rfl rfl underlying22 Jp (by decide) rfl rfl (by decide) (Aa SS) ?_);intro Xf Bf hEf Lf hbf;replace SS:=Ab Lf;clear Lf hbf hEf;simp only[nn]))|((with_reducible show qD ..);((refine apS 2 4 rfl rfl rfl rfl underlying22 Jp rfl (by decide) (Aa SS) rfl rfl rfl (hone t (Aa HM)) (by have:=Aa HKK;omega) (by decide) (Aa SS).fr.size ?_);intro Ag cg Xg Lg;replace SS:=Ab Lg;clear Lg;simp only[nn]))|((with_reducible show qB ..);(refine rd rfl (Eo true rfl rfl rfl H71) ?_))))
    go_roundg (ts.length - (i+1))
    case measure=>have:=Aa HLT;omega
    case rel=>exact⟨i+1,_,_,_,rfl,by go_num,by have:=Aa HLT;omega,by omega,Ab (by rw[Aa HT,List.length_append,Aa HK];rfl),Ab (by
      have S9:=Sy.left (L:= [_,_,_]) (M:= [_,_]) (Aa SS)
      rw[Aa HT,List.flatMap_append,List.flatMap_singleton]
      exact S9)⟩
   ·have H71:decide (t.W=71)=false:=decide_eq_false h71
    clear h71
    by_cases h72:t.W=72
    ·have H72:decide (t.W=72)=true:=decide_eq_true h72
     clear h72
     have HB:knB t=true:=by simp only[knB,H71,H72];rfl
     have HT:Hid ((ts.take (i+1)).filter knB=(ts.take i).filter knB++ [t]):=Ab (by have h:=Zl hx;rw[HB,if_pos rfl] at h;exact h)
     clear HB
     go_wp2_with (first|go_skip|((with_reducible show wpList ..);first|((with_reducible show qA ..);(refine rd rfl (Ad 22 isAgg22 rfl rfl ((Aa SS).hold 0 rfl) rfl) ?_))|((with_reducible show qD ..);(refine rd rfl (Bi 22 59 underlying22 rfl rfl) ?_))|((with_reducible show qG ..);(refine rd rfl (Az 22 59 i Zb5 ZcA rfl rfl rfl (Aa HLT)) ?_))|((with_reducible show qA ..);(refine rd rfl (By (vs:=actC t) 59 59 rwT szT rfl rfl (Aa HA2 _ (Aa SS).fr.below) rfl) ?_))|((with_reducible show qF ..);((refine alS (v:= .agg (actC Lo).toArray) 59 (actC Lo) (by rfl) rfl (fun w=>by kernel_rfl) rfl (Nat.succ_pos _) (Aa SS) ?_);intro Xt Bt hEt Lt hbt;replace SS:=Ab Lt;clear Lt hbt hEt;simp only[nn]))|((with_reducible show qE ..);((refine stS (vs:=actC t) 3 59 (by rfl) rfl rfl rfl rfl (hone t (Aa HM)) szT (Aa SS) rfl (by show 0+59<=59;omega) ?_);intro Xs Ls hfs hss;rw[Me] at Ls;replace SS:=Ab Ls;clear Ls hfs hss;simp only[nn]))|((with_reducible show qA ..);(refine rd rfl (Ad 3 isAgg3 rfl rfl ((Aa SS).hold 3 rfl) rfl) ?_))|((with_reducible show qA ..);(refine rd rfl (Af (vs:=actC t) 59 59 rwT szT rfl rfl ((Aa SS).hold 3 rfl) rfl rfl) ?_))|((with_reducible show qH ..);((refine bsS (cs:=actC t) (by rfl) rfl rfl underlying22 Jp (by decide) rfl rfl (by decide) (Aa SS) ?_);intro Xf Bf hEf Lf hbf;replace SS:=Ab Lf;clear Lf hbf hEf;simp only[nn]))|((with_reducible show qD ..);((refine apS 2 4 rfl rfl rfl rfl underlying22 Jp rfl (by decide) (Aa SS) rfl rfl rfl (hone t (Aa HM)) (by have:=Aa HKK;omega) (by decide) (Aa SS).fr.size ?_);intro Ag cg Xg Lg;replace SS:=Ab Lg;clear Lg;simp only[nn]))|((with_reducible show qB ..);(refine rd rfl (Eo false rfl rfl rfl H71) ?_))|((with_reducible show qB ..);(refine rd rfl (Eo true rfl rfl rfl H72) ?_))))
     go_roundg (ts.length - (i+1))
     case measure=>have:=Aa HLT;omega
     case rel=>exact⟨i+1,_,_,_,rfl,by go_num,by have:=Aa HLT;omega,by omega,Ab (by rw[Aa HT,List.length_append,Aa HK];rfl),Ab (by
       have S9:=Sy.left (L:= [_,_,_]) (M:= [_,_]) (Aa SS)
       rw[Aa HT,List.flatMap_append,List.flatMap_singleton]
       exact S9)⟩
    ·have H72:decide (t.W=72)=false:=decide_eq_false h72
     clear h72
     by_cases h91:t.W=91
     ·have H91:decide (t.W=91)=true:=decide_eq_true h91
      clear h91
      have HB:knB t=true:=by simp only[knB,H71,H72,H91];rfl
      have HT:Hid ((ts.take (i+1)).filter knB=(ts.take i).filter knB++ [t]):=Ab (by have h:=Zl hx;rw[HB,if_pos rfl] at h;exact h)
      clear HB
      go_wp2_with (first|go_skip|((with_reducible show wpList ..);first|((with_reducible show qA ..);(refine rd rfl (Ad 22 isAgg22 rfl rfl ((Aa SS).hold 0 rfl) rfl) ?_))|((with_reducible show qD ..);(refine rd rfl (Bi 22 59 underlying22 rfl rfl) ?_))|((with_reducible show qG ..);(refine rd rfl (Az 22 59 i Zb5 ZcA rfl rfl rfl (Aa HLT)) ?_))|((with_reducible show qA ..);(refine rd rfl (By (vs:=actC t) 59 59 rwT szT rfl rfl (Aa HA2 _ (Aa SS).fr.below) rfl) ?_))|((with_reducible show qF ..);((refine alS (v:= .agg (actC Lo).toArray) 59 (actC Lo) (by rfl) rfl (fun w=>by kernel_rfl) rfl (Nat.succ_pos _) (Aa SS) ?_);intro Xt Bt hEt Lt hbt;replace SS:=Ab Lt;clear Lt hbt hEt;simp only[nn]))|((with_reducible show qE ..);((refine stS (vs:=actC t) 3 59 (by rfl) rfl rfl rfl rfl (hone t (Aa HM)) szT (Aa SS) rfl (by show 0+59<=59;omega) ?_);intro Xs Ls hfs hss;rw[Me] at Ls;replace SS:=Ab Ls;clear Ls hfs hss;simp only[nn]))|((with_reducible show qA ..);(refine rd rfl (Ad 3 isAgg3 rfl rfl ((Aa SS).hold 3 rfl) rfl) ?_))|((with_reducible show qA ..);(refine rd rfl (Af (vs:=actC t) 59 59 rwT szT rfl rfl ((Aa SS).hold 3 rfl) rfl rfl) ?_))|((with_reducible show qH ..);((refine bsS (cs:=actC t) (by rfl) rfl rfl underlying22 Jp (by decide) rfl rfl (by decide) (Aa SS) ?_);intro Xf Bf hEf Lf hbf;replace SS:=Ab Lf;clear Lf hbf hEf;simp only[nn]))|((with_reducible show qD ..);((refine apS 2 4 rfl rfl rfl rfl underlying22 Jp rfl (by decide) (Aa SS) rfl rfl rfl (hone t (Aa HM)) (by have:=Aa HKK;omega) (by decide) (Aa SS).fr.size ?_);intro Ag cg Xg Lg;replace SS:=Ab Lg;clear Lg;simp only[nn]))|((with_reducible show qB ..);(refine rd rfl (Eo false rfl rfl rfl H71) ?_))|((with_reducible show qB ..);(refine rd rfl (Eo false rfl rfl rfl H72) ?_))|((with_reducible show qB ..);(refine rd rfl (Eo true rfl rfl rfl H91) ?_))))
      go_roundg (ts.length - (i+1))
      case measure=>have:=Aa HLT;omega
      case rel=>exact⟨i+1,_,_,_,rfl,by go_num,by have:=Aa HLT;omega,by omega,Ab (by rw[Aa HT,List.length_append,Aa HK];rfl),Ab (by
        have S9:=Sy.left (L:= [_,_,_]) (M:= [_,_]) (Aa SS)
        rw[Aa HT,List.flatMap_append,List.flatMap_singleton]
        exact S9)⟩
     ·have H91:decide (t.W=91)=false:=decide_eq_false h91
      clear h91
      by_cases h0:t.W=0
      ·have H0:decide (t.W=0)=true:=decide_eq_true h0
       clear h0
       by_cases hge:1<=t.M
       ·have Hge:decide (1<=t.M)=true:=decide_eq_true hge
        clear hge
        by_cases hle:t.M<=11
        ·have Hle:decide (t.M<=11)=true:=decide_eq_true hle
         clear hle
         have HB:knB t=true:=by simp only[knB,H71,H72,H91,H0,Hge,Hle];rfl
         have HT:Hid ((ts.take (i+1)).filter knB=(ts.take i).filter knB++ [t]):=Ab (by have h:=Zl hx;rw[HB,if_pos rfl] at h;exact h)
         clear HB
         go_wp2_with (first|go_skip|((with_reducible show wpList ..);first|((with_reducible show qA ..);(refine rd rfl (Ad 22 isAgg22 rfl rfl ((Aa SS).hold 0 rfl) rfl) ?_))|((with_reducible show qD ..);(refine rd rfl (Bi 22 59 underlying22 rfl rfl) ?_))|((with_reducible show qG ..);(refine rd rfl (Az 22 59 i Zb5 ZcA rfl rfl rfl (Aa HLT)) ?_))|((with_reducible show qA ..);(refine rd rfl (By (vs:=actC t) 59 59 rwT szT rfl rfl (Aa HA2 _ (Aa SS).fr.below) rfl) ?_))|((with_reducible show qF ..);((refine alS (v:= .agg (actC Lo).toArray) 59 (actC Lo) (by rfl) rfl (fun w=>by kernel_rfl) rfl (Nat.succ_pos _) (Aa SS) ?_);intro Xt Bt hEt Lt hbt;replace SS:=Ab Lt;clear Lt hbt hEt;simp only[nn]))|((with_reducible show qE ..);((refine stS (vs:=actC t) 3 59 (by rfl) rfl rfl rfl rfl (hone t (Aa HM)) szT (Aa SS) rfl (by show 0+59<=59;omega) ?_);intro Xs Ls hfs hss;rw[Me] at Ls;replace SS:=Ab Ls;clear Ls hfs hss;simp only[nn]))|((with_reducible show qA ..);(refine rd rfl (Ad 3 isAgg3 rfl rfl ((Aa SS).hold 3 rfl) rfl) ?_))|((with_reducible show qA ..);(refine rd rfl (Af (vs:=actC t) 59 59 rwT szT rfl rfl ((Aa SS).hold 3 rfl) rfl rfl) ?_))|((with_reducible show qH ..);((refine bsS (cs:=actC t) (by rfl) rfl rfl underlying22 Jp (by decide) rfl rfl (by decide) (Aa SS) ?_);intro Xf Bf hEf Lf hbf;replace SS:=Ab Lf;clear Lf hbf hEf;simp only[nn]))|((with_reducible show qD ..);((refine apS 2 4 rfl rfl rfl rfl underlying22 Jp rfl (by decide) (Aa SS) rfl rfl rfl (hone t (Aa HM)) (by have:=Aa HKK;omega) (by decide) (Aa SS).fr.size ?_);intro Ag cg Xg Lg;replace SS:=Ab Lg;clear Lg;simp only[nn]))|((with_reducible show qB ..);(refine rd rfl (Eo false rfl rfl rfl H71) ?_))|((with_reducible show qB ..);(refine rd rfl (Eo false rfl rfl rfl H72) ?_))|((with_reducible show qB ..);(refine rd rfl (Eo false rfl rfl rfl H91) ?_))|((with_reducible show qB ..);(refine rd rfl (Eo true rfl rfl rfl H0) ?_))|((with_reducible show qB ..);(refine rd rfl (Zar true rfl rfl rfl Hge) ?_))|((with_reducible show qB ..);(refine rd rfl (ex_leq true rfl rfl rfl Hle) ?_))))
         go_roundg (ts.length - (i+1))
         case measure=>have:=Aa HLT;omega
         case rel=>exact⟨i+1,_,_,_,rfl,by go_num,by have:=Aa HLT;omega,by omega,Ab (by rw[Aa HT,List.length_append,Aa HK];rfl),Ab (by
           have S9:=Sy.left (L:= [_,_,_]) (M:= [_,_]) (Aa SS)
           rw[Aa HT,List.flatMap_append,List.flatMap_singleton]
           exact S9)⟩
        ·have Hle:decide (t.M<=11)=false:=decide_eq_false hle
         clear hle
         have HB:knB t=false:=by simp only[knB,H71,H72,H91,H0,Hge,Hle];rfl
         have HT:Hid ((ts.take (i+1)).filter knB=(ts.take i).filter knB):=Ab (by have h:=Zl hx;rw[HB] at h;simpa using h)
         clear HB
         go_wp2_with (first|go_skip|((with_reducible show wpList ..);first|((with_reducible show qA ..);(refine rd rfl (Ad 22 isAgg22 rfl rfl ((Aa SS).hold 0 rfl) rfl) ?_))|((with_reducible show qD ..);(refine rd rfl (Bi 22 59 underlying22 rfl rfl) ?_))|((with_reducible show qG ..);(refine rd rfl (Az 22 59 i Zb5 ZcA rfl rfl rfl (Aa HLT)) ?_))|((with_reducible show qA ..);(refine rd rfl (By (vs:=actC t) 59 59 rwT szT rfl rfl (Aa HA2 _ (Aa SS).fr.below) rfl) ?_))|((with_reducible show qF ..);((refine alS (v:= .agg (actC Lo).toArray) 59 (actC Lo) (by rfl) rfl (fun w=>by kernel_rfl) rfl (Nat.succ_pos _) (Aa SS) ?_);intro Xt Bt hEt Lt hbt;replace SS:=Ab Lt;clear Lt hbt hEt;simp only[nn]))|((with_reducible show qE ..);((refine stS (vs:=actC t) 3 59 (by rfl) rfl rfl rfl rfl (hone t (Aa HM)) szT (Aa SS) rfl (by show 0+59<=59;omega) ?_);intro Xs Ls hfs hss;rw[Me] at Ls;replace SS:=Ab Ls;clear Ls hfs hss;simp only[nn]))|((with_reducible show qA ..);(refine rd rfl (Ad 3 isAgg3 rfl rfl ((Aa SS).hold 3 rfl) rfl) ?_))|((with_reducible show qA ..);(refine rd rfl (Af (vs:=actC t) 59 59 rwT szT rfl rfl ((Aa SS).hold 3 rfl) rfl rfl) ?_))|((with_reducible show qH ..);((refine bsS (cs:=actC t) (by rfl) rfl rfl underlying22 Jp (by decide) rfl rfl (by decide) (Aa SS) ?_);intro Xf Bf hEf Lf hbf;replace SS:=Ab Lf;clear Lf hbf hEf;simp only[nn]))|((with_reducible show qD ..);((refine apS 2 4 rfl rfl rfl rfl underlying22 Jp rfl (by decide) (Aa SS) rfl rfl rfl (hone t (Aa HM)) (by have:=Aa HKK;omega) (by decide) (Aa SS).fr.size ?_);intro Ag cg Xg Lg;replace SS:=Ab Lg;clear Lg;simp only[nn]))|((with_reducible show qB ..);(refine rd rfl (Eo false rfl rfl rfl H71) ?_))|((with_reducible show qB ..);(refine rd rfl (Eo false rfl rfl rfl H72) ?_))|((with_reducible show qB ..);(refine rd rfl (Eo false rfl rfl rfl H91) ?_))|((with_reducible show qB ..);(refine rd rfl (Eo true rfl rfl rfl H0) ?_))|((with_reducible show qB ..);(refine rd rfl (Zar true rfl rfl rfl Hge) ?_))|((with_reducible show qB ..);(refine rd rfl (ex_leq false rfl rfl rfl Hle) ?_))))
         go_roundg (ts.length - (i+1))
         case measure=>have:=Aa HLT;omega
         case rel=>exact⟨i+1,_,_,_,rfl,by go_num,by have:=Aa HLT;omega,by omega,Ab (by rw[Aa HT,Aa HK]),Ab (by
           have S9:=Sy.left (L:= [_,_,_]) (M:= [_]) (Aa SS)
           rw[Aa HT]
           exact S9)⟩
       ·have Hge:decide (1<=t.M)=false:=decide_eq_false hge
        clear hge
        have HB:knB t=false:=by simp only[knB,H71,H72,H91,H0,Hge];rfl
        have HT:Hid ((ts.take (i+1)).filter knB=(ts.take i).filter knB):=Ab (by have h:=Zl hx;rw[HB] at h;simpa using h)
        clear HB
        go_wp2_with (first|go_skip|((with_reducible show wpList ..);first|((with_reducible show qA ..);(refine rd rfl (Ad 22 isAgg22 rfl rfl ((Aa SS).hold 0 rfl) rfl) ?_))|((with_reducible show qD ..);(refine rd rfl (Bi 22 59 underlying22 rfl rfl) ?_))|((with_reducible show qG ..);(refine rd rfl (Az 22 59 i Zb5 ZcA rfl rfl rfl (Aa HLT)) ?_))|((with_reducible show qA ..);(refine rd rfl (By (vs:=actC t) 59 59 rwT szT rfl rfl (Aa HA2 _ (Aa SS).fr.below) rfl) ?_))|((with_reducible show qF ..);((refine alS (v:= .agg (actC Lo).toArray) 59 (actC Lo) (by rfl) rfl (fun w=>by kernel_rfl) rfl (Nat.succ_pos _) (Aa SS) ?_);intro Xt Bt hEt Lt hbt;replace SS:=Ab Lt;clear Lt hbt hEt;simp only[nn]))|((with_reducible show qE ..);((refine stS (vs:=actC t) 3 59 (by rfl) rfl rfl rfl rfl (hone t (Aa HM)) szT (Aa SS) rfl (by show 0+59<=59;omega) ?_);intro Xs Ls hfs hss;rw[Me] at Ls;replace SS:=Ab Ls;clear Ls hfs hss;simp only[nn]))|((with_reducible show qA ..);(refine rd rfl (Ad 3 isAgg3 rfl rfl ((Aa SS).hold 3 rfl) rfl) ?_))|((with_reducible show qA ..);(refine rd rfl (Af (vs:=actC t) 59 59 rwT szT rfl rfl ((Aa SS).hold 3 rfl) rfl rfl) ?_))|((with_reducible show qH ..);((refine bsS (cs:=actC t) (by rfl) rfl rfl underlying22 Jp (by decide) rfl rfl (by decide) (Aa SS) ?_);intro Xf Bf hEf Lf hbf;replace SS:=Ab Lf;clear Lf hbf hEf;simp only[nn]))|((with_reducible show qD ..);((refine apS 2 4 rfl rfl rfl rfl underlying22 Jp rfl (by decide) (Aa SS) rfl rfl rfl (hone t (Aa HM)) (by have:=Aa HKK;omega) (by decide) (Aa SS).fr.size ?_);intro Ag cg Xg Lg;replace SS:=Ab Lg;clear Lg;simp only[nn]))|((with_reducible show qB ..);(refine rd rfl (Eo false rfl rfl rfl H71) ?_))|((with_reducible show qB ..);(refine rd rfl (Eo false rfl rfl rfl H72) ?_))|((with_reducible show qB ..);(refine rd rfl (Eo false rfl rfl rfl H91) ?_))|((with_reducible show qB ..);(refine rd rfl (Eo true rfl rfl rfl H0) ?_))|((with_reducible show qB ..);(refine rd rfl (Zar false rfl rfl rfl Hge) ?_))))
        go_roundg (ts.length - (i+1))
        case measure=>have:=Aa HLT;omega
        case rel=>exact⟨i+1,_,_,_,rfl,by go_num,by have:=Aa HLT;omega,by omega,Ab (by rw[Aa HT,Aa HK]),Ab (by
          have S9:=Sy.left (L:= [_,_,_]) (M:= [_]) (Aa SS)
          rw[Aa HT]
          exact S9)⟩
      ·have H0:decide (t.W=0)=false:=decide_eq_false h0
       clear h0
       have HB:knB t=false:=by simp only[knB,H71,H72,H91,H0];rfl
       have HT:Hid ((ts.take (i+1)).filter knB=(ts.take i).filter knB):=Ab (by have h:=Zl hx;rw[HB] at h;simpa using h)
       clear HB
       go_wp2_with (first|go_skip|((with_reducible show wpList ..);first|((with_reducible show qA ..);(refine rd rfl (Ad 22 isAgg22 rfl rfl ((Aa SS).hold 0 rfl) rfl) ?_))|((with_reducible show qD ..);(refine rd rfl (Bi 22 59 underlying22 rfl rfl) ?_))|((with_reducible show qG ..);(refine rd rfl (Az 22 59 i Zb5 ZcA rfl rfl rfl (Aa HLT)) ?_))|((with_reducible show qA ..);(refine rd rfl (By (vs:=actC t) 59 59 rwT szT rfl rfl (Aa HA2 _ (Aa SS).fr.below) rfl) ?_))|((with_reducible show qF ..);((refine alS (v:= .agg (actC Lo).toArray) 59 (actC Lo) (by rfl) rfl (fun w=>by kernel_rfl) rfl (Nat.succ_pos _) (Aa SS) ?_);intro Xt Bt hEt Lt hbt;replace SS:=Ab Lt;clear Lt hbt hEt;simp only[nn]))|((with_reducible show qE ..);((refine stS (vs:=actC t) 3 59 (by rfl) rfl rfl rfl rfl (hone t (Aa HM)) szT (Aa SS) rfl (by show 0+59<=59;omega) ?_);intro Xs Ls hfs hss;rw[Me] at Ls;replace SS:=Ab Ls;clear Ls hfs hss;simp only[nn]))|((with_reducible show qA ..);(refine rd rfl (Ad 3 isAgg3 rfl rfl ((Aa SS).hold 3 rfl) rfl) ?_))|((with_reducible show qA ..);(refine rd rfl (Af (vs:=actC t) 59 59 rwT szT rfl rfl ((Aa SS).hold 3 rfl) rfl rfl) ?_))|((with_reducible show qH ..);((refine bsS (cs:=actC t) (by rfl) rfl rfl underlying22 Jp (by decide) rfl rfl (by decide) (Aa SS) ?_);intro Xf Bf hEf Lf hbf;replace SS:=Ab Lf;clear Lf hbf hEf;simp only[nn]))|((with_reducible show qD ..);((refine apS 2 4 rfl rfl rfl rfl underlying22 Jp rfl (by decide) (Aa SS) rfl rfl rfl (hone t (Aa HM)) (by have:=Aa HKK;omega) (by decide) (Aa SS).fr.size ?_);intro Ag cg Xg Lg;replace SS:=Ab Lg;clear Lg;simp only[nn]))|((with_reducible show qB ..);(refine rd rfl (Eo false rfl rfl rfl H71) ?_))|((with_reducible show qB ..);(refine rd rfl (Eo false rfl rfl rfl H72) ?_))|((with_reducible show qB ..);(refine rd rfl (Eo false rfl rfl rfl H91) ?_))|((with_reducible show qB ..);(refine rd rfl (Eo false rfl rfl rfl H0) ?_))))
       go_roundg (ts.length - (i+1))
       case measure=>have:=Aa HLT;omega
       case rel=>exact⟨i+1,_,_,_,rfl,by go_num,by have:=Aa HLT;omega,by omega,Ab (by rw[Aa HT,Aa HK]),Ab (by
         have S9:=Sy.left (L:= [_,_,_]) (M:= [_]) (Aa SS)
         rw[Aa HT]
         exact S9)⟩
  ·obtain rfl:i=ts.length:=by omega
   have e9:ts.take ts.length=ts:=List.take_length
   rw[e9] at SS HK
   go_wp2_with (first|go_skip|((with_reducible show wpList ..);first|((with_reducible show qA ..);(refine rd rfl (Ad 22 isAgg22 rfl rfl ((Aa SS).hold 0 rfl) rfl) ?_))|((with_reducible show qD ..);(refine rd rfl (Bi 22 59 underlying22 rfl rfl) ?_))|((with_reducible show qE ..);((refine stS (vs:= [.slice A1 k c1]) 0 22 (by rfl) rfl rfl rfl rfl (by simp[Value.oneCell']) (by kernel_rfl) (Aa SS) rfl (by show 3+1<=4;omega) ?_);intro Xs Ls hfs hss;replace SS:=Ab Ls;clear Ls hfs hss;simp only[nn]))|((with_reducible show qA ..);(refine rd rfl (Af (vs:=Oh c f d (.slice A1 k c1)) 24 4 rwW szW rfl rfl ((Aa SS).hold 0 rfl) rfl rfl) ?_))|((with_reducible show qE ..);((refine stS (vs:=Oh c f d (.slice A1 k c1)) 1 24 (by rfl) rfl rfl rfl rfl (by simp[Oh,Value.oneCell']) szW (Aa SS) rfl (by show 0+4<=4;omega) ?_);intro Xs Ls hfs hss;replace SS:=Ab Ls;clear Ls hfs hss;simp only[nn]))))
   refine Jf rwW szW rfl rfl rfl ((Aa SS).hold 1 rfl) rfl ?_
   have HK2:=Aa HK
   subst HK2
   exact⟨A1,c1,rfl,(Aa SS).get 2 rfl,(Aa SS).fr.below⟩
