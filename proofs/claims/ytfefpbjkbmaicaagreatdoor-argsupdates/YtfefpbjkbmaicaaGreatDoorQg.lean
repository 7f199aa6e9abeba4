import Derived.Test.YtfefpbjkbmaicaaGreatDoorQf
set_option linter.all false
namespace Go.Proofs.YtfefpbjkbmaicaaGreatDoor
set_option maxRecDepth 100000
set_option maxHeartbeats 0
section
open Go.RowKit Go.Shelf
theorem nums_inj {s t:ByteArray} (h:Dg s=Dg t):s=t:=by
 have h1:s.data.toList=t.data.toList:=by
  have h2:=congrArg (List.map UInt8.ofNat) h
  unfold Dg at h2
  simpa [List.map_map,Function.comp_def] using h2
 cases s;cases t
 simp only[ByteArray.mk.injEq]
 exact Array.toList_inj.1 h1
theorem toList_inj {s t:ByteArray} (h:s.toList=t.toList):s=t:=by
 rw[Lib.toList_data,Lib.toList_data] at h
 cases s;cases t
 simp only[ByteArray.mk.injEq]
 exact Array.toList_inj.1 h
theorem Zb3 {w:World} {B:Nat} {v:Value} {l:List Nat} (h:w.ownsRow B 188 1 v l.length (l.map Rl)):ZbP w v l:=by
 rcases h.2 with ⟨rfl,h0⟩|⟨g,cap,cur,rfl,hBg,hgb,hnc,hcm,hcs,htk⟩
 ·exact .inl ⟨none,0,rfl,List.length_eq_zero_iff.1 h0⟩
 ·refine .inr ⟨g,0,cap,rfl,(Array.getElem?_eq_some_iff.1 hgb).1,fun i hi=> ?_⟩
  rw[Nat.zero_add,h.cellAt i (by omega),List.getElem?_map,List.getElem?_eq_getElem hi,List.getD_eq_getElem?_getD,List.getElem?_eq_getElem hi]
  rfl
theorem Zb5 (s:ByteArray): ∀x∈rdL s,x<65536:=by
 unfold rdL
 cases h:M.rd (Dg s) with
 |none=>simp
 |some u=>simpa using M.rd_small _ _ u (Nat.le_refl _) h
theorem rd1_tail {l:List Nat} {c n:Nat} (h:M.rd1 l=some (c,n)):1+n<=l.length/\(M.U c).length<=1+n:=by
 unfold M.rd1 at h
 split at h
 ·simp at h
 ·split at h
  ·simp at h
  ·rename_i b t n' base hh
   split at h
   ·simp at h
   ·rename_i d htl
    split at h
    ·simp at h
    ·simp only[Option.some.injEq,Prod.mk.injEq] at h
     obtain⟨h1,h2⟩:=h
     have:=Lj _ _ _ _ htl
     have hb:=Jq _ _ _ _ htl
     subst h2
     refine⟨by simp;omega, ?_⟩
     have hUl:=U_len c
     cases n' with
     |zero=>
      have hb0:base<128:=by
       unfold M.head at hh
       repeat' split at hh
       all_goals simp at hh
       omega
      simp at hb h1
      have:c<65536:=by omega
      unfold M.U;rw[if_pos this];simp
     |succ m=>omega
theorem rd_len: ∀(n:Nat) (l u:List Nat),l.length<=n->M.rd l=some u->u.length<=l.length:=by
 intro n
 induction n with
 |zero=>
  intro l u hl h
  have:l= []:=List.eq_nil_of_length_eq_zero (by omega)
  subst this
  rw[M.rd_nil] at h;cases h;simp
 |succ n ih=>
  intro l u hl h
  by_cases hne:l= []
  ·subst hne;rw[M.rd_nil] at h;cases h;simp
  ·rw[M.rd_step l hne] at h
   have hl0:0<l.length:=List.length_pos_iff.2 hne
   cases h1:M.rd1 l with
   |none=>rw[h1] at h;simp at h
   |some p=>
    obtain⟨c,k⟩:=p
    rw[h1] at h
    simp only[Option.map_eq_some_iff] at h
    obtain⟨v,hv,rfl⟩:=h
    have:=ih _ v (by simp;omega) hv
    have:=rd1_tail h1
    simp only[List.length_append,List.length_drop] at *;omega
theorem rdL_len (s:ByteArray):(rdL s).length<=s.size:=by
 unfold rdL
 cases h:M.rd (Dg s) with
 |none=>simp
 |some u=>have:=rd_len _ _ u (Nat.le_refl _) h;rw[Dz] at this;simpa using this

def vS (s:ByteArray):Bool:=M.valid false (Dg s)
theorem Xp (s:ByteArray) (hsz:s.size<=1099511627776) (w:World):
  Calls Tryz.prog 86 #[.string s] w fun e w'=>e= .returned (.bool (vS s))/\Below w.heap.size w w':=by
 have hr:=read_any s hsz w
 have hl:=rdL_len s
 have hv:rdB s=false/\vS s=false∨rdB s=true/\((vS s=true/\M.ofL (rdL s)=Dg s)∨(vS s=false/\M.ofL (rdL s)≠Dg s)):=by
  unfold rdB rdL vS
  rcases M.valid_ref (Dg s) (Yc s) with ⟨h1,u,h2,h3,_⟩|⟨h1,h2⟩
  ·right;rw[h1,h2];exact⟨rfl, .inl ⟨rfl,h3⟩⟩
  ·cases h:M.rd (Dg s) with
   |none=>left;exact⟨rfl,h1⟩
   |some u=>right;exact⟨rfl, .inr ⟨h1,h2 u h⟩⟩
 have hsm:=Zb5 s
 have HOF:=Ac (fun (v:Value) (w:World) (h:ZbP w v (rdL s))=>Zb2 v (rdL s) hsm (by omega) w h)
 have HR:=Ac hr;clear hr hsm
 generalize hrb:rdB s=rb at *
 have HRB:=Ac hrb;clear hrb
 rcases hv with ⟨h1,h2⟩|⟨h1,hv⟩
 ·subst h1
  rw[h2];clear h2
  go_enter Tryz.func86,Tryz.ntmps86
  go_wp2_with fail
  refine(Aa HR).mono ?_
  rintro e w1 ⟨v,rfl,hown,hb⟩
  go_wp2
  go_ret
  exact⟨rfl,hb⟩
 ·subst h1
  go_enter Tryz.func86,Tryz.ntmps86
  go_wp2_with fail
  refine(Aa HR).mono ?_
  rintro e w1 ⟨v,rfl,hown,hb⟩
  have hrd:=Zb3 hown
  have HV:=Ac hv;clear hv
  go_wp2_with fail
  refine(Aa HOF v w1 hrd).mono ?_
  rintro e w2 ⟨t,rfl,ht,hb2⟩
  rcases Aa HV with ⟨h2,h3⟩|⟨h2,h3⟩
  ·have hts:t=s:=nums_inj (ht.trans h3)
   subst hts
   have H2:=Ac h2
   clear h2 h3 ht HV
   go_wp2
   go_ret
   refine⟨?_,hb.trans (hb2.mono hb.size)⟩
   rw[Aa H2]
   simp
  ·have hts:t≠s:=by intro e;subst e;exact h3 ht.symm
   have H2:=Ac h2
   have HTS:=Ac hts
   clear h2 h3 ht HV hts
   go_wp2
   go_ret
   refine⟨?_,hb.trans (hb2.mono hb.size)⟩
   rw[Aa H2]
   simp
   exact fun e=>Aa HTS (toList_inj e)
