import Derived.Test.YthcmamjpfigdfaaGreatDoorRl
set_option linter.all false
namespace Go.Proofs.YthcmamjpfigdfaaGreatDoor
set_option maxRecDepth 100000
set_option maxHeartbeats 0
section
open Go Go.Proofs Go.Maps Go.RowKit FM
attribute [local go_sem] Am Al Ar Ah Ao Ai Au Dg Df Bh Ak Az
def PostN (R:Act->World->Prop) (e:Exit) (a:Act) (X:World):Prop:=match e with| .normal=>R a X|_=>False
theorem pN {R:Act->World->Prop} {a:Act} {X:World} (h:R a X):PostN R .normal a X:=h
theorem Ji {P:Program} {id:Nat} {ops:Array Oper} {Q:Exit->Act->World->Prop} {a:Act} {w:World} (R:Act->Act->World->Prop) (h1:(Code.region id ops true).wp P (PostN (R a)) a w) (h2: ∀a' X,R a a' X->Q .normal a' X):(Code.region id ops true).wp P Q a w:=Code.wp_mono (fun e a' X h=>by cases e<;>first|exact h2 a' X h|exact h.elim) h1
theorem Dx {l:List Int} (h:orE l=0): ∀e∈l,e=0:=by
 induction l with
 |nil=>intro e he;cases he
 |cons a l ih=>
  unfold orE at h
  split at h
  ·rename_i h0
   intro e he
   rcases List.mem_cons.1 he with rfl|he
   ·exact h0
   ·exact ih h e he
  ·rename_i h0
   exact absurd h h0
theorem Kg {o:Int} {h:HP} (he:thE o h.l.length=0): ∃(j:Nat) (q:OB),o=(j:Int)+1/\h.l[j]? =some q:=by
 unfold thE at he
 split at he
 ·rename_i h1
  exact Nv h1
 ·cases he
theorem Rp {n:Nat} {l:List VV} (h:Bj n l=0): ∀v∈l,v.k=7->1<=v.i/\v.i<=(n:Int):=by
 unfold Bj at h
 split at h
 ·rename_i h1
  intro v hv hk
  have:=List.all_eq_true.1 h1 v hv
  unfold Ll Qx at this
  simp[hk] at this
  exact this
 ·cases h
theorem Rj {l:List VV} (h:Bz l=0): ∀v∈l,v.good=true:=by
 unfold Bz at h
 split at h
 ·rename_i h1
  exact fun v hv=>List.all_eq_true.1 h1 v hv
 ·cases h
theorem Ns {k:KK} (h:Da k=0):goodK k=true:=by
 unfold Da at h
 split at h
 ·assumption
 ·cases h
theorem ZdZ {v:VV} (h:Db v=0):v.k=2∨v.k=7:=by
 unfold Db at h
 split at h
 ·assumption
 ·cases h
