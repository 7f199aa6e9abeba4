import Derived.Test.YtmgflhhealdfoaaGreatDoorRp
import Derived.Test.YtmgflhhealdfoaaGreatDoorRq
set_option linter.all false
namespace Go.Proofs.YtmgflhhealdfoaaGreatDoor
set_option maxHeartbeats 1000000
section
open Go Go.Proofs Go.Maps Go.RowKit FM
attribute [local go_sem] mm_GetOwnProperty mm_DefineOwnProperty mm_Get ta_caller ta_builder
theorem mm_Call (w : World) : (method 627 105 (.agg #[]) "Call").run Tryz.prog w = .ok (163, .agg #[]) w := by kernel_rfl
theorem mm_Cons (w : World) : (method 627 107 (.agg #[]) "Construct").run Tryz.prog w = .ok (478, .agg #[]) w := by kernel_rfl
attribute [local go_sem] mm_Call mm_Cons
theorem th_ok {h : HP} {j : Nat} {q : OB} (hj : h.l[j]? = some q) : thE ((j : Int) + 1) h.l.length = 0 := by
  unfold thE
  rw [some_has hj]
  rfl
theorem call_at {h : HP} {j : Nat} {q : OB} (hj : h.l[j]? = some q) : callB h ((j : Int) + 1) = callsM q.m ∧ buildB h ((j : Int) + 1) = buildsM q.m ∧ mOf h ((j : Int) + 1) = q.m := by
  have e : ((j : Int) + 1 - 1).toNat = j := by omega
  unfold callB buildB mOf
  rw [some_has hj, e, hj]
  exact ⟨rfl, rfl, rfl⟩
set_option maxHeartbeats 2000000 in
set_option maxRecDepth 100000 in
theorem enCall_h (h : HP) (j : Nat) (q : OB) (th : VV) (A : Option Addr) (n c2 : Nat) (Fin : HP → VV → Value → Ob → Prop) (w : World) (H : h.Is w) (K : h.Ok) (hj : h.l[j]? = some q) (hm : q.m = 1) (hf : h.fuel ≠ 0) (hd : h.ent ≠ h.depth) (hC : ∀ X, h.To h.inn w X → Calls Tryz.prog 163 #[.agg #[], .pointer (some ⟨h.b, 0, none⟩), .int .i64 ((j : Int) + 1), th.agg, .slice A n c2] X (EndP h.inn Fin X)) (hen : ∀ h2 V er x, Fin h2 V er x → h2.ent = h.ent + 1) : Calls Tryz.prog 36 #[.pointer (some ⟨h.b, 0, none⟩), .int .i64 ((j : Int) + 1), th.agg, .slice A n c2] w (EndP h (fun h3 V er x => ∃ h2, h3 = h2.out ∧ Fin h2 V er x) w) := by
  have SS := hide H.start
  have HC := hide hC
  have HCA := hide (fun (X : World) (s : h.Is X) => caller_h h ((j : Int) + 1) X s K.len)
  rw [(call_at hj).1, (call_at hj).2.2, hm] at HCA
  have hE0 : 0 ≤ h.ent + 1 ∧ h.ent + 1 ≤ 100000001 := by have := K.e0; have := K.e1; have := K.d1; omega
  clear hC
  simp only [vagg] at *
  have HCB : Hid (∀ X, h.Is X → Calls Tryz.prog 63 #[.pointer (some ⟨h.b, 0, none⟩), .int .i64 ((j : Int) + 1)] X fun e w' => e = .returned (.tuple #[.iface 105 (.agg #[]), .int .i64 0]) ∧ w' = X) := HCA
  clear HCA
  go_enter_defers Tryz.func36, Tryz.ntmps36
  go_wp2_with (first | go_skip | ((with_reducible show wpList _ _ _ _ _ _); first | (refine zB 24 (th.cs) (by rfl) rfl rfl rfl SS ?_; clear SS; intro Xp Bp SS; simp only [Act.put, n1, n2, n3]) | (refine zA 24 (zeroV.cs) (by rfl) rfl SS ?_; clear SS; intro Xc Bc SS; simp only [Act.put, n1, n2, n3])))
  refine (unhide HCB _ ((unhide SS).hp 0 rfl)).mono ?_
  rintro _ _ ⟨rfl, rfl⟩
  go_wp2_with fail
  refine (enter_n h j q 105 (by rw [hm]; rfl) _ ((unhide SS).hp 0 rfl) K hj hf hd).mono ?_
  rintro _ Y1 ⟨rfl, T1⟩
  replace SS := hide ((unhide SS).heap 0 rfl T1)
  clear T1
  go_wp2_with (first | go_skip | ((with_reducible show wpList _ _ _ _ _ _); first | (refine zL (th.cs) 24 5 1 rwV szV (by rfl) rfl rfl SS rfl rfl rfl ?_; simp only [Act.put, n1, n2, n3])))
  refine (unhide HC _ (HP.To.end H (unhide SS) rfl)).mono ?_
  rintro _ Y2 ⟨h1, V, er, x, rfl, hfin, N2, T2⟩
  have hb1 : h1.b = h.b := T2.hb
  have hen1 := hen _ _ _ _ hfin
  have HX : ∀ b ∈ x.bs, w.heap.size ≤ b := fun b hb => Nat.le_trans (unhide SS).fr.size (N2.lo b hb)
  replace SS := hide (Sy.endO (unhide SS) T2 N2)
  clear T2 N2
  go_wp2_with (first | go_skip | ((with_reducible show wpList _ _ _ _ _ _); first | (refine zS (V.cs) 2 24 (by rfl) rfl rfl rfl rfl (oneV _) szV SS rfl ?_; clear SS; intro Xz SS; simp only [Act.put, n1, n2, n3])))
  refine leaves_cons (f := 65) (args := #[.pointer (some ⟨h.b, 0, none⟩)]) (by simp) (by simp [go_sem]) ?_
  have HL := leave_d h1 .returning _ ((unhide SS).hp 0 rfl) (by rw [hen1]; exact hE0)
  rw [hb1] at HL
  refine HL.mono ?_
  rintro e u2 w2 ⟨rfl, rfl, T3⟩
  replace SS := hide ((unhide SS).heap 0 rfl T3)
  exact ⟨_, res_ct rwV szV rfl rfl rfl ((unhide SS).hold 2 rfl) rfl, h1.out, V, er, x, rfl, ⟨h1, rfl, hfin⟩, New.of (unhide SS) 3 rfl (by decide) (not_olds H HX), HP.To.end H (unhide SS) hb1⟩
set_option maxRecDepth 100000 in
theorem acc_any (d : DD) (w : World) : Calls Tryz.prog 139 #[d.agg] w fun e w' => e = .returned (.bool (d.g.k != 0)) ∧ Below w.heap.size w w' := by
  have SS := hide (Sy.nil w [])
  rw [dagg]
  cases hg : (d.g.k != 0)
  · go_enter Tryz.func139, Tryz.ntmps139
    go_wp2_with (first | go_skip | ((with_reducible show wpList _ _ _ _ _ _); first | (refine zB 38 (d.cs) (by rfl) rfl rfl rfl SS ?_; clear SS; intro Xa Ba SS; simp only [Act.put, n1, n2, n3]) | (refine z1 3 Tryz.isAgg3 0 (by rfl) rfl rfl SS rfl rfl ?_; simp only [Act.put, n1, n2, n3]) | (refine rd (by rfl) (ex_neI rfl rfl rfl hg) ?_; simp only [Act.put, n1, n2, n3])))
    go_ret
    exact ⟨rfl, (unhide SS).fr.below⟩
  · go_enter Tryz.func139, Tryz.ntmps139
    go_wp2_with (first | go_skip | ((with_reducible show wpList _ _ _ _ _ _); first | (refine zB 38 (d.cs) (by rfl) rfl rfl rfl SS ?_; clear SS; intro Xa Ba SS; simp only [Act.put, n1, n2, n3]) | (refine z1 3 Tryz.isAgg3 0 (by rfl) rfl rfl SS rfl rfl ?_; simp only [Act.put, n1, n2, n3]) | (refine rd (by rfl) (ex_neI rfl rfl rfl hg) ?_; simp only [Act.put, n1, n2, n3])))
    go_ret
    exact ⟨rfl, (unhide SS).fr.below⟩
set_option maxHeartbeats 2000000 in
set_option maxRecDepth 100000 in
theorem read_acc (h : HP) (d : DD) (j : Nat) (r : VV) (Fin : HP → VV → Value → Ob → Prop) (w : World) (H : h.Is w) (hg : d.g = refV ((j : Int) + 1)) (hC : ∀ X, h.To h w X → Calls Tryz.prog 36 #[.pointer (some ⟨h.b, 0, none⟩), .int .i64 ((j : Int) + 1), r.agg, .slice none 0 0] X (EndP h Fin X)) : Calls Tryz.prog 130 #[.pointer (some ⟨h.b, 0, none⟩), d.agg, r.agg] w (EndP h Fin w) := by
  have SS := hide H.start
  have HC := hide hC
  clear hC
  simp only [dagg, vagg] at *
  go_enter Tryz.func130, Tryz.ntmps130
  go_wp2_with (first | go_skip | ((with_reducible show wpList _ _ _ _ _ _); first | (refine zB 38 (d.cs) (by rfl) rfl rfl rfl SS ?_; clear SS; intro Xa Ba SS; simp only [Act.put, n1, n2, n3]) | (refine zB 24 (r.cs) (by rfl) rfl rfl rfl SS ?_; clear SS; intro Xb Bb SS; simp only [Act.put, n1, n2, n3]) | (refine zA 24 (zeroV.cs) (by rfl) rfl SS ?_; clear SS; intro Xc Bc SS; simp only [Act.put, n1, n2, n3]) | (refine zL (d.cs) 38 18 1 rwD szD (by rfl) rfl rfl SS rfl rfl rfl ?_; simp only [Act.put, n1, n2, n3])))
  refine (acc_any d _).mono ?_
  rintro _ Y1 ⟨rfl, hb1⟩
  replace SS := hide ((unhide SS).on hb1)
  clear hb1
  have hg0 : (d.g.k != 0) = true := by rw [hg]; rfl
  rw [hg0]
  have hgk : d.g.k = 7 := by rw [hg]; rfl
  have hgi : d.g.i = (j : Int) + 1 := by rw [hg]; rfl
  go_wp2_with (first | go_skip | ((with_reducible show wpList _ _ _ _ _ _); first | (refine z1 3 Tryz.isAgg3 1 (by rfl) rfl rfl SS rfl rfl ?_; simp only [Act.put, n1, n2, n3]) | (refine rd (by rfl) (ex_neY rfl rfl rfl hgk) ?_; simp only [Act.put, n1, n2, n3]) | (refine zL (r.cs) 24 5 2 rwV szV (by rfl) rfl rfl SS rfl rfl rfl ?_; simp only [Act.put, n1, n2, n3])))
  rw [hgi]
  refine (unhide HC _ (HP.To.end H (unhide SS) rfl)).mono ?_
  rintro _ Y2 ⟨h1, V, er, x, rfl, hfin, N2, T2⟩
  have hb1 : h1.b = h.b := T2.hb
  have HX : ∀ b ∈ x.bs, w.heap.size ≤ b := fun b hb => Nat.le_trans (unhide SS).fr.size (N2.lo b hb)
  replace SS := hide (Sy.endO (unhide SS) T2 N2)
  clear T2 N2
  rw [vagg]
  go_wp2_with (first | go_skip | ((with_reducible show wpList _ _ _ _ _ _); first | (refine zS (V.cs) 3 24 (by rfl) rfl rfl rfl rfl (oneV _) szV SS rfl ?_; clear SS; intro Xz SS; simp only [Act.put, n1, n2, n3])))
  refine bodyPost_ret (res_ct rwV szV rfl rfl rfl ((unhide SS).hold 3 rfl) rfl) rfl ?_
  exact ⟨h1, V, er, x, rfl, hfin, New.of (unhide SS) 4 rfl (by decide) (not_olds H HX), HP.To.end H (unhide SS) hb1⟩
set_option maxRecDepth 100000 in
theorem read_d (h : HP) (d : DD) (r : VV) (w : World) (hg : d.g.k = 0) : Calls Tryz.prog 130 #[.pointer (some ⟨h.b, 0, none⟩), d.agg, r.agg] w fun e w' => e = .returned (.tuple #[d.v.agg, .nilIface]) ∧ Below w.heap.size w w' := by
  have SS := hide (Sy.nil w [])
  rw [dagg, vagg]
  go_enter Tryz.func130, Tryz.ntmps130
  go_wp2_with (first | go_skip | ((with_reducible show wpList _ _ _ _ _ _); first | (refine zB 38 (d.cs) (by rfl) rfl rfl rfl SS ?_; clear SS; intro Xa Ba SS; simp only [Act.put, n1, n2, n3]) | (refine zB 24 (r.cs) (by rfl) rfl rfl rfl SS ?_; clear SS; intro Xb Bb SS; simp only [Act.put, n1, n2, n3]) | (refine zA 24 (zeroV.cs) (by rfl) rfl SS ?_; clear SS; intro Xc Bc SS; simp only [Act.put, n1, n2, n3]) | (refine zL (d.cs) 38 18 0 rwD szD (by rfl) rfl rfl SS rfl rfl rfl ?_; simp only [Act.put, n1, n2, n3])))
  refine (acc_any d _).mono ?_
  rintro _ Y1 ⟨rfl, hb1⟩
  replace SS := hide ((unhide SS).on hb1)
  clear hb1
  rw [show (d.g.k != 0) = false by simp [hg]]
  go_wp2_with (first | go_skip | ((with_reducible show wpList _ _ _ _ _ _); first | (refine zL (d.v.cs) 24 5 0 rwV szV (by rfl) rfl rfl SS rfl rfl rfl ?_; simp only [Act.put, n1, n2, n3]) | (refine zS (d.v.cs) 2 24 (by rfl) rfl rfl rfl rfl (oneV _) szV SS rfl ?_; clear SS; intro Xz SS; simp only [Act.put, n1, n2, n3])))
  refine bodyPost_ret (res_ct rwV szV rfl rfl rfl ((unhide SS).hold 2 rfl) rfl) rfl ?_
  exact ⟨rfl, (unhide SS).fr.below⟩
set_option maxRecDepth 100000 in
theorem get_d (h : HP) (j : Nat) (q : OB) (k : KK) (r : VV) (w : World) (H : h.Is w) (hl : h.l.length ≤ 65536) (hj : h.l[j]? = some q) (hk : OkK k) (hfi : (q.T.find k).isSome = true) (h0 : (getD q.T k).g.k = 0) : Calls Tryz.prog 124 #[.agg #[], .pointer (some ⟨h.b, 0, none⟩), .int .i64 ((j : Int) + 1), k.agg, r.agg] w fun e w' => e = .returned (.tuple #[(getD q.T k).v.agg, .nilIface]) ∧ h.To h w w' := by
  have SS := hide H.start
  simp only [kagg, vagg] at *
  go_enter Tryz.func124, Tryz.ntmps124
  go_wp2_with (first | go_skip | ((with_reducible show wpList _ _ _ _ _ _); first | ((refine bx0 72 (by rfl) rfl rfl (unhide SS) ?_); intro X0 B0 S0; replace SS := hide S0; clear S0; simp only [Act.put, n1, n2, n3]) | (refine zB 26 (k.cs) (by rfl) rfl rfl rfl SS ?_; clear SS; intro Xa Ba SS; simp only [Act.put, n1, n2, n3]) | (refine zB 24 (r.cs) (by rfl) rfl rfl rfl SS ?_; clear SS; intro Xe Be SS; simp only [Act.put, n1, n2, n3]) | (refine zA 24 (zeroV.cs) (by rfl) rfl SS ?_; clear SS; intro Xg Bg SS; simp only [Act.put, n1, n2, n3]) | (refine zL (k.cs) 26 2 1 rwK szK (by rfl) rfl rfl SS rfl rfl rfl ?_; simp only [Act.put, n1, n2, n3])))
  refine (own_h h j q k _ ((unhide SS).hp 0 rfl) hl hj hk).mono ?_
  rintro _ Y1 ⟨rfl, hb1⟩
  replace SS := hide ((unhide SS).on hb1)
  clear hb1
  rw [hfi]
  go_wp2_with (first | go_skip | ((with_reducible show wpList _ _ _ _ _ _); first | (refine zA 38 (zeroD.cs) (by rfl) rfl SS ?_; clear SS; intro Xb Bb SS; simp only [Act.put, n1, n2, n3]) | (refine zS ((getD q.T k).cs) 4 38 (by rfl) rfl rfl rfl rfl (oneD _) szD SS rfl ?_; clear SS; intro Xz SS; simp only [Act.put, n1, n2, n3]) | (refine zL ((getD q.T k).cs) 38 18 4 rwD szD (by rfl) rfl rfl SS rfl rfl rfl ?_; simp only [Act.put, n1, n2, n3]) | (refine zL (r.cs) 24 5 2 rwV szV (by rfl) rfl rfl SS rfl rfl rfl ?_; simp only [Act.put, n1, n2, n3])))
  refine (read_d h (getD q.T k) r _ h0).mono ?_
  rintro _ Y2 ⟨rfl, hb1⟩
  replace SS := hide ((unhide SS).on hb1)
  clear hb1
  rw [vagg]
  go_wp2_with (first | go_skip | ((with_reducible show wpList _ _ _ _ _ _); first | (refine zS ((getD q.T k).v.cs) 3 24 (by rfl) rfl rfl rfl rfl (oneV _) szV SS rfl ?_; clear SS; intro Xy SS; simp only [Act.put, n1, n2, n3])))
  refine bodyPost_ret (res_ct rwV szV rfl rfl rfl ((unhide SS).hold 3 rfl) rfl) rfl ?_
  exact ⟨rfl, HP.To.end H (unhide SS) rfl⟩
set_option maxHeartbeats 2000000 in
set_option maxRecDepth 100000 in
theorem get_a (h : HP) (j : Nat) (q : OB) (k : KK) (r : VV) (f : Nat) (Fin : HP → VV → Value → Ob → Prop) (w : World) (H : h.Is w) (hl : h.l.length ≤ 65536) (hj : h.l[j]? = some q) (hk : OkK k) (hfi : (q.T.find k).isSome = true) (hg : (getD q.T k).g = refV ((f : Int) + 1)) (hC : ∀ X, h.To h w X → Calls Tryz.prog 36 #[.pointer (some ⟨h.b, 0, none⟩), .int .i64 ((f : Int) + 1), r.agg, .slice none 0 0] X (EndP h Fin X)) : Calls Tryz.prog 124 #[.agg #[], .pointer (some ⟨h.b, 0, none⟩), .int .i64 ((j : Int) + 1), k.agg, r.agg] w (EndP h Fin w) := by
  have HR := hide (fun (X : World) (TX : h.To h w X) => read_acc h (getD q.T k) f r Fin X TX.is hg (fun Y TY => hC Y (TX.trans TY)))
  clear hC
  have SS := hide H.start
  simp only [kagg, vagg] at *
  go_enter Tryz.func124, Tryz.ntmps124
  go_wp2_with (first | go_skip | ((with_reducible show wpList _ _ _ _ _ _); first | ((refine bx0 72 (by rfl) rfl rfl (unhide SS) ?_); intro X0 B0 S0; replace SS := hide S0; clear S0; simp only [Act.put, n1, n2, n3]) | (refine zB 26 (k.cs) (by rfl) rfl rfl rfl SS ?_; clear SS; intro Xa Ba SS; simp only [Act.put, n1, n2, n3]) | (refine zB 24 (r.cs) (by rfl) rfl rfl rfl SS ?_; clear SS; intro Xe Be SS; simp only [Act.put, n1, n2, n3]) | (refine zA 24 (zeroV.cs) (by rfl) rfl SS ?_; clear SS; intro Xg Bg SS; simp only [Act.put, n1, n2, n3]) | (refine zL (k.cs) 26 2 1 rwK szK (by rfl) rfl rfl SS rfl rfl rfl ?_; simp only [Act.put, n1, n2, n3])))
  refine (own_h h j q k _ ((unhide SS).hp 0 rfl) hl hj hk).mono ?_
  rintro _ Y1 ⟨rfl, hb1⟩
  replace SS := hide ((unhide SS).on hb1)
  clear hb1
  rw [hfi]
  go_wp2_with (first | go_skip | ((with_reducible show wpList _ _ _ _ _ _); first | (refine zA 38 (zeroD.cs) (by rfl) rfl SS ?_; clear SS; intro Xb Bb SS; simp only [Act.put, n1, n2, n3]) | (refine zS ((getD q.T k).cs) 4 38 (by rfl) rfl rfl rfl rfl (oneD _) szD SS rfl ?_; clear SS; intro Xz SS; simp only [Act.put, n1, n2, n3]) | (refine zL ((getD q.T k).cs) 38 18 4 rwD szD (by rfl) rfl rfl SS rfl rfl rfl ?_; simp only [Act.put, n1, n2, n3]) | (refine zL (r.cs) 24 5 2 rwV szV (by rfl) rfl rfl SS rfl rfl rfl ?_; simp only [Act.put, n1, n2, n3])))
  have HR2 := unhide HR _ (HP.To.end H (unhide SS) rfl)
  try simp only [dagg] at HR2 ⊢
  refine HR2.mono ?_
  clear HR2
  rintro _ Y2 ⟨h1, V, er, x, rfl, hfin, N2, T2⟩
  have hb1 : h1.b = h.b := T2.hb
  have HX : ∀ b ∈ x.bs, w.heap.size ≤ b := fun b hb => Nat.le_trans (unhide SS).fr.size (N2.lo b hb)
  replace SS := hide (Sy.endO (unhide SS) T2 N2)
  clear T2 N2 HR
  rw [vagg]
  go_wp2_with (first | go_skip | ((with_reducible show wpList _ _ _ _ _ _); first | (refine zS (V.cs) 3 24 (by rfl) rfl rfl rfl rfl (oneV _) szV SS rfl ?_; clear SS; intro Xy SS; simp only [Act.put, n1, n2, n3])))
  refine bodyPost_ret (res_ct rwV szV rfl rfl rfl ((unhide SS).hold 3 rfl) rfl) rfl ?_
  exact ⟨h1, V, er, x, rfl, hfin, New.of (unhide SS) 5 rfl (by decide) (not_olds H HX), HP.To.end H (unhide SS) hb1⟩
theorem dget_x (h : HP) (j : Nat) (q : OB) (k : KK) (r : VV) (Fin : HP → VV → Value → Ob → Prop) (w : World) (H : h.Is w) (hT : Tabs w) (K : h.Ok) (hj : h.l[j]? = some q) (hk : goodK k = true) (hr : r.good = true) (hrk : knownE h.l.length [r] = 0) (hf : h.fuel ≠ 0) (hd : h.ent ≠ h.depth)
    (hC : ∀ X, h.To h.inn w X → Calls Tryz.prog 124 #[.agg #[], .pointer (some ⟨h.b, 0, none⟩), .int .i64 ((j : Int) + 1), k.agg, r.agg] X (EndP h.inn Fin X)) (hen : ∀ h2 V er x, Fin h2 V er x → h2.ent = h.ent + 1) : Calls Tryz.prog 20 #[.pointer (some ⟨h.b, 0, none⟩), .int .i64 ((j : Int) + 1), k.agg, r.agg] w fun e w' => ∃ h2 V er x, e = .returned (.tuple #[VV.agg V, er]) ∧ Fin h2 V er x ∧ h.To h2.out w w' := by
  refine (dorGet h ((j : Int) + 1) k r w H K.len hT (fun h1 V er => ∃ h2 x, h1 = h2.out ∧ Fin h2 V er x) ?_).mono ?_
  · intro j' q' X ho hj' _ T1
    obtain rfl : j = j' := by omega
    obtain rfl : q = q' := Option.some.inj (hj.symm.trans hj')
    refine (enGet_n h j q k r (fun h1 V er => ∃ x, Fin h1 V er x) X T1.is K hj hf hd ?_).mono ?_
    · intro Y T2
      refine (hC Y (T1.trans T2)).mono ?_
      rintro _ Z ⟨h2, V, er, x, rfl, hfin, -, T3⟩
      exact ⟨h2, V, er, rfl, ⟨x, hfin⟩, hen _ _ _ _ hfin, T3⟩
    · rintro _ Z ⟨h1, V, er, rfl, ⟨x, hfin⟩, T3⟩
      exact ⟨_, _, _, rfl, ⟨h1, x, rfl, hfin⟩, T3⟩
  · rintro _ Z ⟨h1, V, er, rfl, hP, T3⟩
    have hz : orE [thE ((j : Int) + 1) h.l.length, kErr k, soundE [r], knownE h.l.length [r]] = 0 := by
      have h2 : kErr k = 0 := by unfold kErr; rw [hk]; rfl
      have h3 : soundE [r] = 0 := by unfold soundE; simp [hr]
      rw [th_ok hj, h2, h3, hrk]
      rfl
    rcases hP with ⟨h9, _⟩ | ⟨_, h2, x, rfl, hfin⟩
    · exact absurd hz h9
    · exact ⟨h2, V, er, x, rfl, hfin, T3⟩
def defC (h : HP) (j : Nat) (k : KK) (d : DD) : Int := orE [thE ((j : Int) + 1) h.l.length, kErr k, chkV d, knownE h.l.length [d.v, d.g, d.s], accE h [d.g, d.s]]
theorem ddef_x (h : HP) (j : Nat) (q : OB) (k : KK) (d : DD) (w : World) (H : h.Is w) (hT : Tabs w) (K : h.Ok) (hj : h.l[j]? = some q) (hk : goodK k = true) (hFn : FD (getD q.T k)) (hFd : FD d) (hlast : q.T.last < 90000) (hz : defC h j k d = 0) (hB : appB q.x (getD q.T k) d = true) (hf : h.fuel ≠ 0) (hd : h.ent ≠ h.depth) : Calls Tryz.prog 15 #[.pointer (some ⟨h.b, 0, none⟩), .int .i64 ((j : Int) + 1), k.agg, d.agg] w fun e w' => ∃ T' : TT, e = .returned (.tuple #[.bool true, .nilIface]) ∧ T'.last ≤ q.T.last + 1 ∧ pr T' = putP (pr q.T) k (appD q.x (getD q.T k) d) ∧ h.To (h.tab j q T').less w w' := by
  refine (dorDefineOwnProperty h ((j : Int) + 1) k d w H K.len hT hFd (fun h1 y er => y = true ∧ er = .nilIface ∧ ∃ T' : TT, h1 = (h.tab j q T').less ∧ T'.last ≤ q.T.last + 1 ∧ pr T' = putP (pr q.T) k (appD q.x (getD q.T k) d)) ?_).mono ?_
  · intro j' q' X ho hj' _ T1
    obtain rfl : j = j' := by omega
    obtain rfl : q = q' := Option.some.inj (hj.symm.trans hj')
    refine (enDefineOwnProperty_n h j q k d (fun h1 y er => er = .nilIface ∧ DefP h.inn j q k d h1 y) X T1.is K hj hf hd ?_).mono ?_
    · intro Y T2
      refine (ord_define h.inn j q k d Y T2.is K.len hj ((T1.trans T2).tabs H hT) (good_ok hk) hk hFn hFd (by omega)).mono ?_
      rintro _ Z ⟨h1, y, rfl, hP, T3⟩
      refine ⟨h1, y, _, rfl, ⟨rfl, hP⟩, ?_, T3⟩
      rcases hP.2 with ⟨-, rfl⟩ | ⟨-, T', rfl, -⟩ <;> rfl
    · rintro _ Z ⟨h1, y, er, rfl, ⟨rfl, hP⟩, T3⟩
      refine ⟨_, _, _, rfl, ?_, T3⟩
      obtain ⟨hy, hP⟩ := hP
      rw [hB] at hy
      subst hy
      rcases hP with ⟨h9, -⟩ | ⟨-, T', rfl, h5, h6⟩
      · cases h9
      · refine ⟨rfl, rfl, T', ?_, h5, h6⟩
        unfold HP.inn HP.out HP.less HP.tab
        simp
  · rintro _ Z ⟨h1, y, er, rfl, hP, T3⟩
    rcases hP with ⟨h9, _⟩ | ⟨_, rfl, rfl, T', rfl, h5, h6⟩
    · exact absurd hz h9
    · exact ⟨T', rfl, h5, h6, T3⟩
/-- A descriptor with a value alone. -/
def dv (v : VV) : DD := ⟨v, zeroV, zeroV, 0, 0, 0⟩
def dn (v : VV) : DD := ⟨v, zeroV, zeroV, 1, 1, 1⟩
theorem dv_shape (v : VV) : shapeV (dv v) = if thV v then 2 else 1 := by
  unfold shapeV dv
  have e : thV zeroV = false := by kernel_rfl
  rw [e]
  cases thV v <;> rfl
theorem dv_kind (v : VV) : kindV (dv v) = if thV v && !v.good then 0 else if thV v then 2 else 1 := by
  unfold kindV
  rw [dv_shape]
  have e : soundV (dv v) = (!thV v || v.good) := by
    unfold soundV dv
    have e1 : callV zeroV = true := by kernel_rfl
    have e2 : triV 0 = true := by decide
    simp [e1, e2]
  rw [e]
  cases thV v <;> cases v.good <;> rfl
theorem dv_chk (v : VV) : chkV (dv v) = 0 ↔ (thV v && !v.good) = false := by
  unfold chkV
  rw [dv_kind]
  cases thV v <;> cases v.good <;> decide
theorem dv_new (v : VV) (h : chkV (dv v) = 0) : appB true zeroD (dv v) = true ∧ appD true zeroD (dv v) = dn (orV v undV) := by
  have h1 := (dv_chk v).1 h
  have hk : (kindV (dv v) == 0) = false := by rw [dv_kind, h1]; cases thV v <;> rfl
  have hs : stV zeroD = true := by kernel_rfl
  have hn : noV zeroD = true := by kernel_rfl
  have hsh : (shapeV (dv v) == 3) = false := by rw [dv_shape]; cases thV v <;> rfl
  unfold appB appD
  rw [hk, hs, hn]
  refine ⟨rfl, ?_⟩
  show fillV (dv v) = _
  unfold fillV
  rw [hsh]
  rfl
theorem dv_fd {v : VV} (h : v.x < 2 ^ 64) : FD (dv v) := ⟨h, by show (0 : Nat) < _; decide, by show (0 : Nat) < _; decide⟩
theorem th_k {v : VV} (h : v.k ≠ 0) : thV v = true := by
  unfold thV
  simp [h]
theorem dv_good {v : VV} (h : v.good = true) : chkV (dv v) = 0 := (dv_chk v).2 (by simp [h])
theorem dv_def {h : HP} {j : Nat} {q : OB} {k : KK} {v : VV} (hj : h.l[j]? = some q) (hk : goodK k = true) (hc : chkV (dv v) = 0) (hn : knownE h.l.length [v] = 0) : defC h j k (dv v) = 0 := by
  have h2 : kErr k = 0 := by unfold kErr; rw [hk]; rfl
  have h3 : knownE h.l.length [(dv v).v, (dv v).g, (dv v).s] = 0 := by
    unfold knownE at hn ⊢
    have e : knownV h.l.length zeroV = true := rfl
    simp only [dv, List.all_cons, List.all_nil, e, Bool.and_true, Bool.true_and] at hn ⊢
    exact hn
  have h4 : accE h [(dv v).g, (dv v).s] = 0 := rfl
  unfold defC
  rw [th_ok hj, h2, hc, h3, h4]
  rfl
theorem put_new {l : List (KK × DD)} {k : KK} {d : DD} (h : hasP l k = false) : putP l k d = l ++ [(k, d)] := by
  unfold putP
  rw [h]
  rfl
theorem get_new {T : TT} {k : KK} (h : hasP (pr T) k = false) : getD T k = zeroD := by
  rw [pr_get]
  have : lkP (pr T) k = none := by
    cases h1 : lkP (pr T) k with
    | none => rfl
    | some d => have := lk_has (pr T) k; rw [h1, h] at this; cases this
  rw [this]
  rfl
theorem ex_bsE6 {o : Oper} {a : Act} {w : World} {x0 x1 x2 x3 x4 x5 : Operand} {e0 e1 e2 e3 e4 e5 : Int} (ho : o.op = .buildSlice 101 6 #[(0, x0), (1, x1), (2, x2), (3, x3), (4, x4), (5, x5)]) (h0 : a.eval x0 = .int .i64 e0) (h1 : a.eval x1 = .int .i64 e1) (h2 : a.eval x2 = .int .i64 e2) (h3 : a.eval x3 = .int .i64 e3) (h4 : a.eval x4 = .int .i64 e4) (h5 : a.eval x5 = .int .i64 e5) : (execOp a.eval o).run Tryz.prog w = .ok (.value (.slice (some ⟨w.heap.size, 0, none⟩) 6 6)) (w.alloc (Obj.cells (ints [e0, e1, e2, e3, e4, e5]).toArray 29)) := by
  have e : (Instr.buildSlice 101 6 #[(0, .int .i64 e0), (1, .int .i64 e1), (2, .int .i64 e2), (3, .int .i64 e3), (4, .int .i64 e4), (5, .int .i64 e5)]).run Tryz.prog w = .ok (.slice (some ⟨w.heap.size, 0, none⟩) 6 6) (w.alloc (Obj.cells (ints [e0, e1, e2, e3, e4, e5]).toArray 29)) := by kernel_rfl
  unfold execOp
  simp only [ho, List.map_toArray, List.map_cons, List.map_nil, h0, h1, h2, h3, h4, h5]
  simp [e]
theorem short_nil (w : World) : Calls Tryz.prog 35 #[.slice none 0 0] w fun e w' => e = .returned (.int .i64 0) ∧ Below w.heap.size w w' := by
  go_enter Tryz.func35, Tryz.ntmps35
  go_wp2_with (first | go_skip | ((with_reducible show wpList _ _ _ _ _ _); first | (refine rd (by rfl) (ex_lenG 63 24 Tryz.underlying63 rfl rfl) ?_; simp only [Act.put, n1, n2, n3])))
  go_ret
  exact ⟨rfl, Below.refl _ _⟩
theorem reads_nil (w : World) : ReadsV w none [] := fun j v hj => by simp at hj
set_option maxHeartbeats 2000000 in
set_option maxRecDepth 100000 in
theorem dcall_h (h : HP) (j : Nat) (th : VV) (Fin : HP → VV → Value → Ob → Prop) (w : World) (H : h.Is w) (hT : Tabs w) (hz : orE [thE ((j : Int) + 1) h.l.length, soundE [th], soundE [], knownE h.l.length [th], knownE h.l.length [], 0] = 0) (hC : ∀ X, h.To h w X → Calls Tryz.prog 36 #[.pointer (some ⟨h.b, 0, none⟩), .int .i64 ((j : Int) + 1), th.agg, .slice none 0 0] X (EndP h Fin X)) : Calls Tryz.prog 10 #[.pointer (some ⟨h.b, 0, none⟩), .int .i64 ((j : Int) + 1), th.agg, .slice none 0 0] w (EndP h Fin w) := by
  have SS := hide H.start
  have HC := hide hC
  clear hC
  simp only [vagg] at *
  go_enter Tryz.func10, Tryz.ntmps10
  go_wp2_with (first | go_skip | ((with_reducible show wpList _ _ _ _ _ _); first | (refine zB 24 (th.cs) (by rfl) rfl rfl rfl SS ?_; clear SS; intro Xa Ba SS; simp only [Act.put, n1, n2, n3]) | (refine zA 24 (zeroV.cs) (by rfl) rfl SS ?_; clear SS; intro Xb Bb SS; simp only [Act.put, n1, n2, n3])))
  have hS : Sy w _ h.blocks [boxO Ba th.cs, boxO Bb zeroV.cs, hpO h] := (Sy.back (unhide SS)).drew
  clear SS
  have cu : ∀ {X : World} {M : List Ob}, Sy w X h.blocks ([boxO Ba th.cs, boxO Bb zeroV.cs, hpO h] ++ M) → Sy w X h.blocks [boxO Ba th.cs, boxO Bb zeroV.cs, hpO h] := fun h => Sy.left h
  refine wp_region_held_drew (P := Tryz.prog) (S := fun X => Sy w X h.blocks _) (by kernel_rfl) (hS) (fun hS0 => ?_)
  refine gp 0 (some 11) (.pointer (some ⟨h.b, 0, none⟩)) rfl rfl (hS) ?_
  simp only [Act.put, n1, n2, n3]
  refine gp 1 (some 12) (.int .i64 ((j : Int) + 1)) rfl rfl (hS) ?_
  simp only [Act.put, n1, n2, n3]
  refine gq 3 (some 14) (.agg th.cs.toArray) rfl rfl (fun X hX => ex_loadN (vs := th.cs) 24 5 rwV szV rfl rfl (hX.hold 0 rfl) rfl rfl) (hS) ?_
  simp only [Act.put, n1, n2, n3]
  refine gp 6 (some 17) (.slice none 0 0) rfl rfl (hS) ?_
  simp only [Act.put, n1, n2, n3]
  refine gp 8 (some 19) (.pointer (some ⟨h.b, 0, none⟩)) rfl rfl (hS) ?_
  simp only [Act.put, n1, n2, n3]
  refine gq 9 (some 20) (.agg th.cs.toArray) rfl rfl (fun X hX => ex_loadN (vs := th.cs) 24 5 rwV szV rfl rfl (hX.hold 0 rfl) rfl rfl) (hS) ?_
  simp only [Act.put, n1, n2, n3]
  refine gp 12 (some 23) (.pointer (some ⟨h.b, 0, none⟩)) rfl rfl (hS) ?_
  simp only [Act.put, n1, n2, n3]
  refine gp 13 (some 24) (.slice none 0 0) rfl rfl (hS) ?_
  simp only [Act.put, n1, n2, n3]
  refine gp 15 (some 26) (.slice none 0 0) rfl rfl (hS) ?_
  simp only [Act.put, n1, n2, n3]
  refine gr (rs := [2, 4, 10]) (gcW 2 (some 13) rfl rfl (hS) (there_h h ((j : Int) + 1) _ (hS.hp 2 rfl)) ?_ (gbsS 4 (some 15) rfl rfl (by kernel_rfl) (ex_bsV1 rfl rfl) (Nat.succ_pos _) hS (fun _ hZ => cu hZ) ?_ (gbsS 10 (some 21) rfl rfl (by kernel_rfl) (ex_bsV1 rfl rfl) (Nat.succ_pos _) hS (fun _ hZ => cu hZ) ?_ gn)))
  · simp only [Act.put, n1, n2, n3]
    refine gr (rs := [4, 10]) (gbsS 4 (some 15) rfl rfl (by kernel_rfl) (ex_bsV1 rfl rfl) (Nat.succ_pos _) hS (fun _ hZ => cu hZ) ?_ (gbsS 10 (some 21) rfl rfl (by kernel_rfl) (ex_bsV1 rfl rfl) (Nat.succ_pos _) hS (fun _ hZ => cu hZ) ?_ gn))
    · intro Yt2 Bt2 hEt2 hqt2
      clear hEt2
      simp only [Act.put, n1, n2, n3]
      refine gr (rs := [5, 10]) (gcB 5 (some 16) rfl rfl hqt2 (sound_h (some ⟨Bt2, 0, none⟩) 1 [th] _ (hT.fr hqt2.fr H.low).1 (reads_holds (hqt2.hold 3 rfl)) (by simp)) (fun x => cu x) ?_ (gbsS 10 (some 21) rfl rfl (by kernel_rfl) (ex_bsV1 rfl rfl) (Nat.succ_pos _) hqt2 (fun _ hZ => cu hZ) ?_ gn))
      · intro Yt3 hqt3
        simp only [Act.put, n1, n2, n3]
        refine gr (rs := [7, 10]) (gcB 7 (some 18) rfl rfl hqt3 (sound_h none 0 [] _ (hT.fr hqt3.fr H.low).1 (reads_nil _) (by simp)) (fun x => cu x) ?_ (gbsS 10 (some 21) rfl rfl (by kernel_rfl) (ex_bsV1 rfl rfl) (Nat.succ_pos _) hqt3 (fun _ hZ => cu hZ) ?_ gn))
        · intro Yt4 hqt4
          simp only [Act.put, n1, n2, n3]
          refine gr (rs := [10]) (gbsS 10 (some 21) rfl rfl (by kernel_rfl) (ex_bsV1 rfl rfl) (Nat.succ_pos _) hqt4 (fun _ hZ => cu hZ) ?_ gn)
          intro Yt5 Bt5 hEt5 hqt5
          clear hEt5
          simp only [Act.put, n1, n2, n3]
          refine gr (rs := [11]) (gcB 11 (some 22) rfl rfl hqt5 (known_h h (some ⟨Bt5, 0, none⟩) 1 [th] _ (hqt5.hp 2 rfl) (reads_holds (hqt5.hold 4 rfl)) (by simp)) (fun x => cu x) ?_ gn)
          intro Yt6 hqt6
          simp only [Act.put, n1, n2, n3]
          refine gr (rs := [14]) (gcB 14 (some 25) rfl rfl hqt6 (known_h h none 0 [] _ (hqt6.hp 2 rfl) (reads_nil _) (by simp)) (fun x => cu x) ?_ gn)
          intro Yt7 hqt7
          simp only [Act.put, n1, n2, n3]
          refine gr (rs := [16]) (gcB 16 (some 27) rfl rfl hqt7 (short_nil _) (fun x => cu x) ?_ gn)
          intro Yt8 hqt8
          simp only [Act.put, n1, n2, n3]
          refine gr (rs := [17]) (gbsS 17 (some 28) rfl rfl (by kernel_rfl) (ex_bsE6 rfl rfl rfl rfl rfl rfl rfl) (Nat.succ_pos _) hqt8 (fun _ hZ => cu hZ) ?_ gn)
          intro Yt9 Bt9 hEt9 hqt9
          clear hEt9
          simp only [Act.put, n1, n2, n3]
          refine gr (rs := [18]) (gcW 18 (some 29) rfl rfl (cu hqt9) (or_any Bt9 6 [thE ((j : Int) + 1) h.l.length, soundE [th], soundE [], knownE h.l.length [th], knownE h.l.length [], 0] _ (hqt9.hold 5 rfl) (by simp)) ?_ gn)
          refine gp 19 (some 10) (.int .i64 (orE [thE ((j : Int) + 1) h.l.length, soundE [th], soundE [], knownE h.l.length [th], knownE h.l.length [], 0])) rfl rfl (cu hqt9) ?_
          simp only [Act.put, n1, n2, n3]
          refine wpAnyH_done (by kernel_rfl) ?_ _
          try simp only [Act.put, n1, n2, n3]
          have SS := hide (Sy.front (L := [boxO Ba th.cs, boxO Bb zeroV.cs]) (Sy.left (L := [boxO Ba th.cs, boxO Bb zeroV.cs, hpO h]) (M := [boxO Bt2 ([th].flatMap VV.cs), boxO Bt5 ([th].flatMap VV.cs), boxO Bt9 (ints [thE ((j : Int) + 1) h.l.length, soundE [th], soundE [], knownE h.l.length [th], knownE h.l.length [], 0])]) hqt9))
          go_wp2_with (first | go_skip | ((with_reducible show wpList _ _ _ _ _ _); first | (refine rd (by rfl) (ex_neE0 rfl rfl rfl hz) ?_; simp only [Act.put, n1, n2, n3]) | (refine zL (th.cs) 24 5 1 rwV szV (by rfl) rfl rfl SS rfl rfl rfl ?_; simp only [Act.put, n1, n2, n3])))
          refine (unhide HC _ (HP.To.end H (unhide SS) rfl)).mono ?_
          rintro _ Y2 ⟨h1, V, er, x, rfl, hfin, N2, T2⟩
          have hb1 : h1.b = h.b := T2.hb
          have HX : ∀ b ∈ x.bs, w.heap.size ≤ b := fun b hb => Nat.le_trans (unhide SS).fr.size (N2.lo b hb)
          replace SS := hide (Sy.endO (unhide SS) T2 N2)
          clear T2 N2
          try rw [vagg]
          go_wp2_with (first | go_skip | ((with_reducible show wpList _ _ _ _ _ _); first | (refine zS (V.cs) 2 24 (by rfl) rfl rfl rfl rfl (oneV _) szV SS rfl ?_; clear SS; intro Xz SS; simp only [Act.put, n1, n2, n3])))
          refine bodyPost_ret (res_ct rwV szV rfl rfl rfl ((unhide SS).hold 2 rfl) rfl) rfl ?_
          exact ⟨h1, V, er, x, rfl, hfin, New.of (unhide SS) 3 rfl (by decide) (not_olds H HX), HP.To.end H (unhide SS) hb1⟩
        · intro Yt11 Bt11 hEt11 hqt11
          clear hEt11
          simp only [Act.put, n1, n2, n3]
          refine gr (rs := [7]) (gcB 7 (some 18) rfl rfl hqt11 (sound_h none 0 [] _ (hT.fr hqt11.fr H.low).1 (reads_nil _) (by simp)) (fun x => cu x) ?_ gn)
          intro Yt12 hqt12
          simp only [Act.put, n1, n2, n3]
          refine gr (rs := [11]) (gcB 11 (some 22) rfl rfl hqt12 (known_h h (some ⟨Bt11, 0, none⟩) 1 [th] _ (hqt12.hp 2 rfl) (reads_holds (hqt12.hold 4 rfl)) (by simp)) (fun x => cu x) ?_ gn)
          intro Yt13 hqt13
          simp only [Act.put, n1, n2, n3]
          refine gr (rs := [14]) (gcB 14 (some 25) rfl rfl hqt13 (known_h h none 0 [] _ (hqt13.hp 2 rfl) (reads_nil _) (by simp)) (fun x => cu x) ?_ gn)
          intro Yt14 hqt14
          simp only [Act.put, n1, n2, n3]
          refine gr (rs := [16]) (gcB 16 (some 27) rfl rfl hqt14 (short_nil _) (fun x => cu x) ?_ gn)
          intro Yt15 hqt15
          simp only [Act.put, n1, n2, n3]
          refine gr (rs := [17]) (gbsS 17 (some 28) rfl rfl (by kernel_rfl) (ex_bsE6 rfl rfl rfl rfl rfl rfl rfl) (Nat.succ_pos _) hqt15 (fun _ hZ => cu hZ) ?_ gn)
          intro Yt16 Bt16 hEt16 hqt16
          clear hEt16
          simp only [Act.put, n1, n2, n3]
          refine gr (rs := [18]) (gcW 18 (some 29) rfl rfl (cu hqt16) (or_any Bt16 6 [thE ((j : Int) + 1) h.l.length, soundE [th], soundE [], knownE h.l.length [th], knownE h.l.length [], 0] _ (hqt16.hold 5 rfl) (by simp)) ?_ gn)
          refine gp 19 (some 10) (.int .i64 (orE [thE ((j : Int) + 1) h.l.length, soundE [th], soundE [], knownE h.l.length [th], knownE h.l.length [], 0])) rfl rfl (cu hqt16) ?_
          simp only [Act.put, n1, n2, n3]
          refine wpAnyH_done (by kernel_rfl) ?_ _
          try simp only [Act.put, n1, n2, n3]
          have SS := hide (Sy.front (L := [boxO Ba th.cs, boxO Bb zeroV.cs]) (Sy.left (L := [boxO Ba th.cs, boxO Bb zeroV.cs, hpO h]) (M := [boxO Bt2 ([th].flatMap VV.cs), boxO Bt11 ([th].flatMap VV.cs), boxO Bt16 (ints [thE ((j : Int) + 1) h.l.length, soundE [th], soundE [], knownE h.l.length [th], knownE h.l.length [], 0])]) hqt16))
          go_wp2_with (first | go_skip | ((with_reducible show wpList _ _ _ _ _ _); first | (refine rd (by rfl) (ex_neE0 rfl rfl rfl hz) ?_; simp only [Act.put, n1, n2, n3]) | (refine zL (th.cs) 24 5 1 rwV szV (by rfl) rfl rfl SS rfl rfl rfl ?_; simp only [Act.put, n1, n2, n3])))
          refine (unhide HC _ (HP.To.end H (unhide SS) rfl)).mono ?_
          rintro _ Y2 ⟨h1, V, er, x, rfl, hfin, N2, T2⟩
          have hb1 : h1.b = h.b := T2.hb
          have HX : ∀ b ∈ x.bs, w.heap.size ≤ b := fun b hb => Nat.le_trans (unhide SS).fr.size (N2.lo b hb)
          replace SS := hide (Sy.endO (unhide SS) T2 N2)
          clear T2 N2
          try rw [vagg]
          go_wp2_with (first | go_skip | ((with_reducible show wpList _ _ _ _ _ _); first | (refine zS (V.cs) 2 24 (by rfl) rfl rfl rfl rfl (oneV _) szV SS rfl ?_; clear SS; intro Xz SS; simp only [Act.put, n1, n2, n3])))
          refine bodyPost_ret (res_ct rwV szV rfl rfl rfl ((unhide SS).hold 2 rfl) rfl) rfl ?_
          exact ⟨h1, V, er, x, rfl, hfin, New.of (unhide SS) 3 rfl (by decide) (not_olds H HX), HP.To.end H (unhide SS) hb1⟩
      · intro Yt18 Bt18 hEt18 hqt18
        clear hEt18
        simp only [Act.put, n1, n2, n3]
        refine gr (rs := [5]) (gcB 5 (some 16) rfl rfl hqt18 (sound_h (some ⟨Bt2, 0, none⟩) 1 [th] _ (hT.fr hqt18.fr H.low).1 (reads_holds (hqt18.hold 3 rfl)) (by simp)) (fun x => cu x) ?_ gn)
        intro Yt19 hqt19
        simp only [Act.put, n1, n2, n3]
        refine gr (rs := [7]) (gcB 7 (some 18) rfl rfl hqt19 (sound_h none 0 [] _ (hT.fr hqt19.fr H.low).1 (reads_nil _) (by simp)) (fun x => cu x) ?_ gn)
        intro Yt20 hqt20
        simp only [Act.put, n1, n2, n3]
        refine gr (rs := [11]) (gcB 11 (some 22) rfl rfl hqt20 (known_h h (some ⟨Bt18, 0, none⟩) 1 [th] _ (hqt20.hp 2 rfl) (reads_holds (hqt20.hold 4 rfl)) (by simp)) (fun x => cu x) ?_ gn)
        intro Yt21 hqt21
        simp only [Act.put, n1, n2, n3]
        refine gr (rs := [14]) (gcB 14 (some 25) rfl rfl hqt21 (known_h h none 0 [] _ (hqt21.hp 2 rfl) (reads_nil _) (by simp)) (fun x => cu x) ?_ gn)
        intro Yt22 hqt22
        simp only [Act.put, n1, n2, n3]
        refine gr (rs := [16]) (gcB 16 (some 27) rfl rfl hqt22 (short_nil _) (fun x => cu x) ?_ gn)
        intro Yt23 hqt23
        simp only [Act.put, n1, n2, n3]
        refine gr (rs := [17]) (gbsS 17 (some 28) rfl rfl (by kernel_rfl) (ex_bsE6 rfl rfl rfl rfl rfl rfl rfl) (Nat.succ_pos _) hqt23 (fun _ hZ => cu hZ) ?_ gn)
        intro Yt24 Bt24 hEt24 hqt24
        clear hEt24
        simp only [Act.put, n1, n2, n3]
        refine gr (rs := [18]) (gcW 18 (some 29) rfl rfl (cu hqt24) (or_any Bt24 6 [thE ((j : Int) + 1) h.l.length, soundE [th], soundE [], knownE h.l.length [th], knownE h.l.length [], 0] _ (hqt24.hold 5 rfl) (by simp)) ?_ gn)
        refine gp 19 (some 10) (.int .i64 (orE [thE ((j : Int) + 1) h.l.length, soundE [th], soundE [], knownE h.l.length [th], knownE h.l.length [], 0])) rfl rfl (cu hqt24) ?_
        simp only [Act.put, n1, n2, n3]
        refine wpAnyH_done (by kernel_rfl) ?_ _
        try simp only [Act.put, n1, n2, n3]
        have SS := hide (Sy.front (L := [boxO Ba th.cs, boxO Bb zeroV.cs]) (Sy.left (L := [boxO Ba th.cs, boxO Bb zeroV.cs, hpO h]) (M := [boxO Bt2 ([th].flatMap VV.cs), boxO Bt18 ([th].flatMap VV.cs), boxO Bt24 (ints [thE ((j : Int) + 1) h.l.length, soundE [th], soundE [], knownE h.l.length [th], knownE h.l.length [], 0])]) hqt24))
        go_wp2_with (first | go_skip | ((with_reducible show wpList _ _ _ _ _ _); first | (refine rd (by rfl) (ex_neE0 rfl rfl rfl hz) ?_; simp only [Act.put, n1, n2, n3]) | (refine zL (th.cs) 24 5 1 rwV szV (by rfl) rfl rfl SS rfl rfl rfl ?_; simp only [Act.put, n1, n2, n3])))
        refine (unhide HC _ (HP.To.end H (unhide SS) rfl)).mono ?_
        rintro _ Y2 ⟨h1, V, er, x, rfl, hfin, N2, T2⟩
        have hb1 : h1.b = h.b := T2.hb
        have HX : ∀ b ∈ x.bs, w.heap.size ≤ b := fun b hb => Nat.le_trans (unhide SS).fr.size (N2.lo b hb)
        replace SS := hide (Sy.endO (unhide SS) T2 N2)
        clear T2 N2
        try rw [vagg]
        go_wp2_with (first | go_skip | ((with_reducible show wpList _ _ _ _ _ _); first | (refine zS (V.cs) 2 24 (by rfl) rfl rfl rfl rfl (oneV _) szV SS rfl ?_; clear SS; intro Xz SS; simp only [Act.put, n1, n2, n3])))
        refine bodyPost_ret (res_ct rwV szV rfl rfl rfl ((unhide SS).hold 2 rfl) rfl) rfl ?_
        exact ⟨h1, V, er, x, rfl, hfin, New.of (unhide SS) 3 rfl (by decide) (not_olds H HX), HP.To.end H (unhide SS) hb1⟩
    · intro Yt26 Bt26 hEt26 hqt26
      clear hEt26
      simp only [Act.put, n1, n2, n3]
      refine gr (rs := [4]) (gbsS 4 (some 15) rfl rfl (by kernel_rfl) (ex_bsV1 rfl rfl) (Nat.succ_pos _) hqt26 (fun _ hZ => cu hZ) ?_ gn)
      intro Yt27 Bt27 hEt27 hqt27
      clear hEt27
      simp only [Act.put, n1, n2, n3]
      refine gr (rs := [5]) (gcB 5 (some 16) rfl rfl hqt27 (sound_h (some ⟨Bt27, 0, none⟩) 1 [th] _ (hT.fr hqt27.fr H.low).1 (reads_holds (hqt27.hold 4 rfl)) (by simp)) (fun x => cu x) ?_ gn)
      intro Yt28 hqt28
      simp only [Act.put, n1, n2, n3]
      refine gr (rs := [7]) (gcB 7 (some 18) rfl rfl hqt28 (sound_h none 0 [] _ (hT.fr hqt28.fr H.low).1 (reads_nil _) (by simp)) (fun x => cu x) ?_ gn)
      intro Yt29 hqt29
      simp only [Act.put, n1, n2, n3]
      refine gr (rs := [11]) (gcB 11 (some 22) rfl rfl hqt29 (known_h h (some ⟨Bt26, 0, none⟩) 1 [th] _ (hqt29.hp 2 rfl) (reads_holds (hqt29.hold 3 rfl)) (by simp)) (fun x => cu x) ?_ gn)
      intro Yt30 hqt30
      simp only [Act.put, n1, n2, n3]
      refine gr (rs := [14]) (gcB 14 (some 25) rfl rfl hqt30 (known_h h none 0 [] _ (hqt30.hp 2 rfl) (reads_nil _) (by simp)) (fun x => cu x) ?_ gn)
      intro Yt31 hqt31
      simp only [Act.put, n1, n2, n3]
      refine gr (rs := [16]) (gcB 16 (some 27) rfl rfl hqt31 (short_nil _) (fun x => cu x) ?_ gn)
      intro Yt32 hqt32
      simp only [Act.put, n1, n2, n3]
      refine gr (rs := [17]) (gbsS 17 (some 28) rfl rfl (by kernel_rfl) (ex_bsE6 rfl rfl rfl rfl rfl rfl rfl) (Nat.succ_pos _) hqt32 (fun _ hZ => cu hZ) ?_ gn)
      intro Yt33 Bt33 hEt33 hqt33
      clear hEt33
      simp only [Act.put, n1, n2, n3]
      refine gr (rs := [18]) (gcW 18 (some 29) rfl rfl (cu hqt33) (or_any Bt33 6 [thE ((j : Int) + 1) h.l.length, soundE [th], soundE [], knownE h.l.length [th], knownE h.l.length [], 0] _ (hqt33.hold 5 rfl) (by simp)) ?_ gn)
      refine gp 19 (some 10) (.int .i64 (orE [thE ((j : Int) + 1) h.l.length, soundE [th], soundE [], knownE h.l.length [th], knownE h.l.length [], 0])) rfl rfl (cu hqt33) ?_
      simp only [Act.put, n1, n2, n3]
      refine wpAnyH_done (by kernel_rfl) ?_ _
      try simp only [Act.put, n1, n2, n3]
      have SS := hide (Sy.front (L := [boxO Ba th.cs, boxO Bb zeroV.cs]) (Sy.left (L := [boxO Ba th.cs, boxO Bb zeroV.cs, hpO h]) (M := [boxO Bt26 ([th].flatMap VV.cs), boxO Bt27 ([th].flatMap VV.cs), boxO Bt33 (ints [thE ((j : Int) + 1) h.l.length, soundE [th], soundE [], knownE h.l.length [th], knownE h.l.length [], 0])]) hqt33))
      go_wp2_with (first | go_skip | ((with_reducible show wpList _ _ _ _ _ _); first | (refine rd (by rfl) (ex_neE0 rfl rfl rfl hz) ?_; simp only [Act.put, n1, n2, n3]) | (refine zL (th.cs) 24 5 1 rwV szV (by rfl) rfl rfl SS rfl rfl rfl ?_; simp only [Act.put, n1, n2, n3])))
      refine (unhide HC _ (HP.To.end H (unhide SS) rfl)).mono ?_
      rintro _ Y2 ⟨h1, V, er, x, rfl, hfin, N2, T2⟩
      have hb1 : h1.b = h.b := T2.hb
      have HX : ∀ b ∈ x.bs, w.heap.size ≤ b := fun b hb => Nat.le_trans (unhide SS).fr.size (N2.lo b hb)
      replace SS := hide (Sy.endO (unhide SS) T2 N2)
      clear T2 N2
      try rw [vagg]
      go_wp2_with (first | go_skip | ((with_reducible show wpList _ _ _ _ _ _); first | (refine zS (V.cs) 2 24 (by rfl) rfl rfl rfl rfl (oneV _) szV SS rfl ?_; clear SS; intro Xz SS; simp only [Act.put, n1, n2, n3])))
      refine bodyPost_ret (res_ct rwV szV rfl rfl rfl ((unhide SS).hold 2 rfl) rfl) rfl ?_
      exact ⟨h1, V, er, x, rfl, hfin, New.of (unhide SS) 3 rfl (by decide) (not_olds H HX), HP.To.end H (unhide SS) hb1⟩
  · intro Yt35 Bt35 hEt35 hqt35
    clear hEt35
    simp only [Act.put, n1, n2, n3]
    refine gr (rs := [2, 10]) (gcW 2 (some 13) rfl rfl (cu hqt35) (there_h h ((j : Int) + 1) _ (hqt35.hp 2 rfl)) ?_ (gbsS 10 (some 21) rfl rfl (by kernel_rfl) (ex_bsV1 rfl rfl) (Nat.succ_pos _) hqt35 (fun _ hZ => cu hZ) ?_ gn))
    · simp only [Act.put, n1, n2, n3]
      refine gr (rs := [5, 10]) (gcB 5 (some 16) rfl rfl hqt35 (sound_h (some ⟨Bt35, 0, none⟩) 1 [th] _ (hT.fr hqt35.fr H.low).1 (reads_holds (hqt35.hold 3 rfl)) (by simp)) (fun x => cu x) ?_ (gbsS 10 (some 21) rfl rfl (by kernel_rfl) (ex_bsV1 rfl rfl) (Nat.succ_pos _) hqt35 (fun _ hZ => cu hZ) ?_ gn))
      · intro Yt37 hqt37
        simp only [Act.put, n1, n2, n3]
        refine gr (rs := [7, 10]) (gcB 7 (some 18) rfl rfl hqt37 (sound_h none 0 [] _ (hT.fr hqt37.fr H.low).1 (reads_nil _) (by simp)) (fun x => cu x) ?_ (gbsS 10 (some 21) rfl rfl (by kernel_rfl) (ex_bsV1 rfl rfl) (Nat.succ_pos _) hqt37 (fun _ hZ => cu hZ) ?_ gn))
        · intro Yt38 hqt38
          simp only [Act.put, n1, n2, n3]
          refine gr (rs := [10]) (gbsS 10 (some 21) rfl rfl (by kernel_rfl) (ex_bsV1 rfl rfl) (Nat.succ_pos _) hqt38 (fun _ hZ => cu hZ) ?_ gn)
          intro Yt39 Bt39 hEt39 hqt39
          clear hEt39
          simp only [Act.put, n1, n2, n3]
          refine gr (rs := [11]) (gcB 11 (some 22) rfl rfl hqt39 (known_h h (some ⟨Bt39, 0, none⟩) 1 [th] _ (hqt39.hp 2 rfl) (reads_holds (hqt39.hold 4 rfl)) (by simp)) (fun x => cu x) ?_ gn)
          intro Yt40 hqt40
          simp only [Act.put, n1, n2, n3]
          refine gr (rs := [14]) (gcB 14 (some 25) rfl rfl hqt40 (known_h h none 0 [] _ (hqt40.hp 2 rfl) (reads_nil _) (by simp)) (fun x => cu x) ?_ gn)
          intro Yt41 hqt41
          simp only [Act.put, n1, n2, n3]
          refine gr (rs := [16]) (gcB 16 (some 27) rfl rfl hqt41 (short_nil _) (fun x => cu x) ?_ gn)
          intro Yt42 hqt42
          simp only [Act.put, n1, n2, n3]
          refine gr (rs := [17]) (gbsS 17 (some 28) rfl rfl (by kernel_rfl) (ex_bsE6 rfl rfl rfl rfl rfl rfl rfl) (Nat.succ_pos _) hqt42 (fun _ hZ => cu hZ) ?_ gn)
          intro Yt43 Bt43 hEt43 hqt43
          clear hEt43
          simp only [Act.put, n1, n2, n3]
          refine gr (rs := [18]) (gcW 18 (some 29) rfl rfl (cu hqt43) (or_any Bt43 6 [thE ((j : Int) + 1) h.l.length, soundE [th], soundE [], knownE h.l.length [th], knownE h.l.length [], 0] _ (hqt43.hold 5 rfl) (by simp)) ?_ gn)
          refine gp 19 (some 10) (.int .i64 (orE [thE ((j : Int) + 1) h.l.length, soundE [th], soundE [], knownE h.l.length [th], knownE h.l.length [], 0])) rfl rfl (cu hqt43) ?_
          simp only [Act.put, n1, n2, n3]
          refine wpAnyH_done (by kernel_rfl) ?_ _
          try simp only [Act.put, n1, n2, n3]
          have SS := hide (Sy.front (L := [boxO Ba th.cs, boxO Bb zeroV.cs]) (Sy.left (L := [boxO Ba th.cs, boxO Bb zeroV.cs, hpO h]) (M := [boxO Bt35 ([th].flatMap VV.cs), boxO Bt39 ([th].flatMap VV.cs), boxO Bt43 (ints [thE ((j : Int) + 1) h.l.length, soundE [th], soundE [], knownE h.l.length [th], knownE h.l.length [], 0])]) hqt43))
          go_wp2_with (first | go_skip | ((with_reducible show wpList _ _ _ _ _ _); first | (refine rd (by rfl) (ex_neE0 rfl rfl rfl hz) ?_; simp only [Act.put, n1, n2, n3]) | (refine zL (th.cs) 24 5 1 rwV szV (by rfl) rfl rfl SS rfl rfl rfl ?_; simp only [Act.put, n1, n2, n3])))
          refine (unhide HC _ (HP.To.end H (unhide SS) rfl)).mono ?_
          rintro _ Y2 ⟨h1, V, er, x, rfl, hfin, N2, T2⟩
          have hb1 : h1.b = h.b := T2.hb
          have HX : ∀ b ∈ x.bs, w.heap.size ≤ b := fun b hb => Nat.le_trans (unhide SS).fr.size (N2.lo b hb)
          replace SS := hide (Sy.endO (unhide SS) T2 N2)
          clear T2 N2
          try rw [vagg]
          go_wp2_with (first | go_skip | ((with_reducible show wpList _ _ _ _ _ _); first | (refine zS (V.cs) 2 24 (by rfl) rfl rfl rfl rfl (oneV _) szV SS rfl ?_; clear SS; intro Xz SS; simp only [Act.put, n1, n2, n3])))
          refine bodyPost_ret (res_ct rwV szV rfl rfl rfl ((unhide SS).hold 2 rfl) rfl) rfl ?_
          exact ⟨h1, V, er, x, rfl, hfin, New.of (unhide SS) 3 rfl (by decide) (not_olds H HX), HP.To.end H (unhide SS) hb1⟩
        · intro Yt45 Bt45 hEt45 hqt45
          clear hEt45
          simp only [Act.put, n1, n2, n3]
          refine gr (rs := [7]) (gcB 7 (some 18) rfl rfl hqt45 (sound_h none 0 [] _ (hT.fr hqt45.fr H.low).1 (reads_nil _) (by simp)) (fun x => cu x) ?_ gn)
          intro Yt46 hqt46
          simp only [Act.put, n1, n2, n3]
          refine gr (rs := [11]) (gcB 11 (some 22) rfl rfl hqt46 (known_h h (some ⟨Bt45, 0, none⟩) 1 [th] _ (hqt46.hp 2 rfl) (reads_holds (hqt46.hold 4 rfl)) (by simp)) (fun x => cu x) ?_ gn)
          intro Yt47 hqt47
          simp only [Act.put, n1, n2, n3]
          refine gr (rs := [14]) (gcB 14 (some 25) rfl rfl hqt47 (known_h h none 0 [] _ (hqt47.hp 2 rfl) (reads_nil _) (by simp)) (fun x => cu x) ?_ gn)
          intro Yt48 hqt48
          simp only [Act.put, n1, n2, n3]
          refine gr (rs := [16]) (gcB 16 (some 27) rfl rfl hqt48 (short_nil _) (fun x => cu x) ?_ gn)
          intro Yt49 hqt49
          simp only [Act.put, n1, n2, n3]
          refine gr (rs := [17]) (gbsS 17 (some 28) rfl rfl (by kernel_rfl) (ex_bsE6 rfl rfl rfl rfl rfl rfl rfl) (Nat.succ_pos _) hqt49 (fun _ hZ => cu hZ) ?_ gn)
          intro Yt50 Bt50 hEt50 hqt50
          clear hEt50
          simp only [Act.put, n1, n2, n3]
          refine gr (rs := [18]) (gcW 18 (some 29) rfl rfl (cu hqt50) (or_any Bt50 6 [thE ((j : Int) + 1) h.l.length, soundE [th], soundE [], knownE h.l.length [th], knownE h.l.length [], 0] _ (hqt50.hold 5 rfl) (by simp)) ?_ gn)
          refine gp 19 (some 10) (.int .i64 (orE [thE ((j : Int) + 1) h.l.length, soundE [th], soundE [], knownE h.l.length [th], knownE h.l.length [], 0])) rfl rfl (cu hqt50) ?_
          simp only [Act.put, n1, n2, n3]
          refine wpAnyH_done (by kernel_rfl) ?_ _
          try simp only [Act.put, n1, n2, n3]
          have SS := hide (Sy.front (L := [boxO Ba th.cs, boxO Bb zeroV.cs]) (Sy.left (L := [boxO Ba th.cs, boxO Bb zeroV.cs, hpO h]) (M := [boxO Bt35 ([th].flatMap VV.cs), boxO Bt45 ([th].flatMap VV.cs), boxO Bt50 (ints [thE ((j : Int) + 1) h.l.length, soundE [th], soundE [], knownE h.l.length [th], knownE h.l.length [], 0])]) hqt50))
          go_wp2_with (first | go_skip | ((with_reducible show wpList _ _ _ _ _ _); first | (refine rd (by rfl) (ex_neE0 rfl rfl rfl hz) ?_; simp only [Act.put, n1, n2, n3]) | (refine zL (th.cs) 24 5 1 rwV szV (by rfl) rfl rfl SS rfl rfl rfl ?_; simp only [Act.put, n1, n2, n3])))
          refine (unhide HC _ (HP.To.end H (unhide SS) rfl)).mono ?_
          rintro _ Y2 ⟨h1, V, er, x, rfl, hfin, N2, T2⟩
          have hb1 : h1.b = h.b := T2.hb
          have HX : ∀ b ∈ x.bs, w.heap.size ≤ b := fun b hb => Nat.le_trans (unhide SS).fr.size (N2.lo b hb)
          replace SS := hide (Sy.endO (unhide SS) T2 N2)
          clear T2 N2
          try rw [vagg]
          go_wp2_with (first | go_skip | ((with_reducible show wpList _ _ _ _ _ _); first | (refine zS (V.cs) 2 24 (by rfl) rfl rfl rfl rfl (oneV _) szV SS rfl ?_; clear SS; intro Xz SS; simp only [Act.put, n1, n2, n3])))
          refine bodyPost_ret (res_ct rwV szV rfl rfl rfl ((unhide SS).hold 2 rfl) rfl) rfl ?_
          exact ⟨h1, V, er, x, rfl, hfin, New.of (unhide SS) 3 rfl (by decide) (not_olds H HX), HP.To.end H (unhide SS) hb1⟩
      · intro Yt52 Bt52 hEt52 hqt52
        clear hEt52
        simp only [Act.put, n1, n2, n3]
        refine gr (rs := [5]) (gcB 5 (some 16) rfl rfl hqt52 (sound_h (some ⟨Bt35, 0, none⟩) 1 [th] _ (hT.fr hqt52.fr H.low).1 (reads_holds (hqt52.hold 3 rfl)) (by simp)) (fun x => cu x) ?_ gn)
        intro Yt53 hqt53
        simp only [Act.put, n1, n2, n3]
        refine gr (rs := [7]) (gcB 7 (some 18) rfl rfl hqt53 (sound_h none 0 [] _ (hT.fr hqt53.fr H.low).1 (reads_nil _) (by simp)) (fun x => cu x) ?_ gn)
        intro Yt54 hqt54
        simp only [Act.put, n1, n2, n3]
        refine gr (rs := [11]) (gcB 11 (some 22) rfl rfl hqt54 (known_h h (some ⟨Bt52, 0, none⟩) 1 [th] _ (hqt54.hp 2 rfl) (reads_holds (hqt54.hold 4 rfl)) (by simp)) (fun x => cu x) ?_ gn)
        intro Yt55 hqt55
        simp only [Act.put, n1, n2, n3]
        refine gr (rs := [14]) (gcB 14 (some 25) rfl rfl hqt55 (known_h h none 0 [] _ (hqt55.hp 2 rfl) (reads_nil _) (by simp)) (fun x => cu x) ?_ gn)
        intro Yt56 hqt56
        simp only [Act.put, n1, n2, n3]
        refine gr (rs := [16]) (gcB 16 (some 27) rfl rfl hqt56 (short_nil _) (fun x => cu x) ?_ gn)
        intro Yt57 hqt57
        simp only [Act.put, n1, n2, n3]
        refine gr (rs := [17]) (gbsS 17 (some 28) rfl rfl (by kernel_rfl) (ex_bsE6 rfl rfl rfl rfl rfl rfl rfl) (Nat.succ_pos _) hqt57 (fun _ hZ => cu hZ) ?_ gn)
        intro Yt58 Bt58 hEt58 hqt58
        clear hEt58
        simp only [Act.put, n1, n2, n3]
        refine gr (rs := [18]) (gcW 18 (some 29) rfl rfl (cu hqt58) (or_any Bt58 6 [thE ((j : Int) + 1) h.l.length, soundE [th], soundE [], knownE h.l.length [th], knownE h.l.length [], 0] _ (hqt58.hold 5 rfl) (by simp)) ?_ gn)
        refine gp 19 (some 10) (.int .i64 (orE [thE ((j : Int) + 1) h.l.length, soundE [th], soundE [], knownE h.l.length [th], knownE h.l.length [], 0])) rfl rfl (cu hqt58) ?_
        simp only [Act.put, n1, n2, n3]
        refine wpAnyH_done (by kernel_rfl) ?_ _
        try simp only [Act.put, n1, n2, n3]
        have SS := hide (Sy.front (L := [boxO Ba th.cs, boxO Bb zeroV.cs]) (Sy.left (L := [boxO Ba th.cs, boxO Bb zeroV.cs, hpO h]) (M := [boxO Bt35 ([th].flatMap VV.cs), boxO Bt52 ([th].flatMap VV.cs), boxO Bt58 (ints [thE ((j : Int) + 1) h.l.length, soundE [th], soundE [], knownE h.l.length [th], knownE h.l.length [], 0])]) hqt58))
        go_wp2_with (first | go_skip | ((with_reducible show wpList _ _ _ _ _ _); first | (refine rd (by rfl) (ex_neE0 rfl rfl rfl hz) ?_; simp only [Act.put, n1, n2, n3]) | (refine zL (th.cs) 24 5 1 rwV szV (by rfl) rfl rfl SS rfl rfl rfl ?_; simp only [Act.put, n1, n2, n3])))
        refine (unhide HC _ (HP.To.end H (unhide SS) rfl)).mono ?_
        rintro _ Y2 ⟨h1, V, er, x, rfl, hfin, N2, T2⟩
        have hb1 : h1.b = h.b := T2.hb
        have HX : ∀ b ∈ x.bs, w.heap.size ≤ b := fun b hb => Nat.le_trans (unhide SS).fr.size (N2.lo b hb)
        replace SS := hide (Sy.endO (unhide SS) T2 N2)
        clear T2 N2
        try rw [vagg]
        go_wp2_with (first | go_skip | ((with_reducible show wpList _ _ _ _ _ _); first | (refine zS (V.cs) 2 24 (by rfl) rfl rfl rfl rfl (oneV _) szV SS rfl ?_; clear SS; intro Xz SS; simp only [Act.put, n1, n2, n3])))
        refine bodyPost_ret (res_ct rwV szV rfl rfl rfl ((unhide SS).hold 2 rfl) rfl) rfl ?_
        exact ⟨h1, V, er, x, rfl, hfin, New.of (unhide SS) 3 rfl (by decide) (not_olds H HX), HP.To.end H (unhide SS) hb1⟩
    · intro Yt60 Bt60 hEt60 hqt60
      clear hEt60
      simp only [Act.put, n1, n2, n3]
      refine gr (rs := [2]) (gcW 2 (some 13) rfl rfl (cu hqt60) (there_h h ((j : Int) + 1) _ (hqt60.hp 2 rfl)) ?_ gn)
      simp only [Act.put, n1, n2, n3]
      refine gr (rs := [5]) (gcB 5 (some 16) rfl rfl hqt60 (sound_h (some ⟨Bt35, 0, none⟩) 1 [th] _ (hT.fr hqt60.fr H.low).1 (reads_holds (hqt60.hold 3 rfl)) (by simp)) (fun x => cu x) ?_ gn)
      intro Yt62 hqt62
      simp only [Act.put, n1, n2, n3]
      refine gr (rs := [7]) (gcB 7 (some 18) rfl rfl hqt62 (sound_h none 0 [] _ (hT.fr hqt62.fr H.low).1 (reads_nil _) (by simp)) (fun x => cu x) ?_ gn)
      intro Yt63 hqt63
      simp only [Act.put, n1, n2, n3]
      refine gr (rs := [11]) (gcB 11 (some 22) rfl rfl hqt63 (known_h h (some ⟨Bt60, 0, none⟩) 1 [th] _ (hqt63.hp 2 rfl) (reads_holds (hqt63.hold 4 rfl)) (by simp)) (fun x => cu x) ?_ gn)
      intro Yt64 hqt64
      simp only [Act.put, n1, n2, n3]
      refine gr (rs := [14]) (gcB 14 (some 25) rfl rfl hqt64 (known_h h none 0 [] _ (hqt64.hp 2 rfl) (reads_nil _) (by simp)) (fun x => cu x) ?_ gn)
      intro Yt65 hqt65
      simp only [Act.put, n1, n2, n3]
      refine gr (rs := [16]) (gcB 16 (some 27) rfl rfl hqt65 (short_nil _) (fun x => cu x) ?_ gn)
      intro Yt66 hqt66
      simp only [Act.put, n1, n2, n3]
      refine gr (rs := [17]) (gbsS 17 (some 28) rfl rfl (by kernel_rfl) (ex_bsE6 rfl rfl rfl rfl rfl rfl rfl) (Nat.succ_pos _) hqt66 (fun _ hZ => cu hZ) ?_ gn)
      intro Yt67 Bt67 hEt67 hqt67
      clear hEt67
      simp only [Act.put, n1, n2, n3]
      refine gr (rs := [18]) (gcW 18 (some 29) rfl rfl (cu hqt67) (or_any Bt67 6 [thE ((j : Int) + 1) h.l.length, soundE [th], soundE [], knownE h.l.length [th], knownE h.l.length [], 0] _ (hqt67.hold 5 rfl) (by simp)) ?_ gn)
      refine gp 19 (some 10) (.int .i64 (orE [thE ((j : Int) + 1) h.l.length, soundE [th], soundE [], knownE h.l.length [th], knownE h.l.length [], 0])) rfl rfl (cu hqt67) ?_
      simp only [Act.put, n1, n2, n3]
      refine wpAnyH_done (by kernel_rfl) ?_ _
      try simp only [Act.put, n1, n2, n3]
      have SS := hide (Sy.front (L := [boxO Ba th.cs, boxO Bb zeroV.cs]) (Sy.left (L := [boxO Ba th.cs, boxO Bb zeroV.cs, hpO h]) (M := [boxO Bt35 ([th].flatMap VV.cs), boxO Bt60 ([th].flatMap VV.cs), boxO Bt67 (ints [thE ((j : Int) + 1) h.l.length, soundE [th], soundE [], knownE h.l.length [th], knownE h.l.length [], 0])]) hqt67))
      go_wp2_with (first | go_skip | ((with_reducible show wpList _ _ _ _ _ _); first | (refine rd (by rfl) (ex_neE0 rfl rfl rfl hz) ?_; simp only [Act.put, n1, n2, n3]) | (refine zL (th.cs) 24 5 1 rwV szV (by rfl) rfl rfl SS rfl rfl rfl ?_; simp only [Act.put, n1, n2, n3])))
      refine (unhide HC _ (HP.To.end H (unhide SS) rfl)).mono ?_
      rintro _ Y2 ⟨h1, V, er, x, rfl, hfin, N2, T2⟩
      have hb1 : h1.b = h.b := T2.hb
      have HX : ∀ b ∈ x.bs, w.heap.size ≤ b := fun b hb => Nat.le_trans (unhide SS).fr.size (N2.lo b hb)
      replace SS := hide (Sy.endO (unhide SS) T2 N2)
      clear T2 N2
      try rw [vagg]
      go_wp2_with (first | go_skip | ((with_reducible show wpList _ _ _ _ _ _); first | (refine zS (V.cs) 2 24 (by rfl) rfl rfl rfl rfl (oneV _) szV SS rfl ?_; clear SS; intro Xz SS; simp only [Act.put, n1, n2, n3])))
      refine bodyPost_ret (res_ct rwV szV rfl rfl rfl ((unhide SS).hold 2 rfl) rfl) rfl ?_
      exact ⟨h1, V, er, x, rfl, hfin, New.of (unhide SS) 3 rfl (by decide) (not_olds H HX), HP.To.end H (unhide SS) hb1⟩
  · intro Yt69 Bt69 hEt69 hqt69
    clear hEt69
    simp only [Act.put, n1, n2, n3]
    refine gr (rs := [2, 4]) (gcW 2 (some 13) rfl rfl (cu hqt69) (there_h h ((j : Int) + 1) _ (hqt69.hp 2 rfl)) ?_ (gbsS 4 (some 15) rfl rfl (by kernel_rfl) (ex_bsV1 rfl rfl) (Nat.succ_pos _) hqt69 (fun _ hZ => cu hZ) ?_ gn))
    · simp only [Act.put, n1, n2, n3]
      refine gr (rs := [4]) (gbsS 4 (some 15) rfl rfl (by kernel_rfl) (ex_bsV1 rfl rfl) (Nat.succ_pos _) hqt69 (fun _ hZ => cu hZ) ?_ gn)
      intro Yt71 Bt71 hEt71 hqt71
      clear hEt71
      simp only [Act.put, n1, n2, n3]
      refine gr (rs := [5]) (gcB 5 (some 16) rfl rfl hqt71 (sound_h (some ⟨Bt71, 0, none⟩) 1 [th] _ (hT.fr hqt71.fr H.low).1 (reads_holds (hqt71.hold 4 rfl)) (by simp)) (fun x => cu x) ?_ gn)
      intro Yt72 hqt72
      simp only [Act.put, n1, n2, n3]
      refine gr (rs := [7]) (gcB 7 (some 18) rfl rfl hqt72 (sound_h none 0 [] _ (hT.fr hqt72.fr H.low).1 (reads_nil _) (by simp)) (fun x => cu x) ?_ gn)
      intro Yt73 hqt73
      simp only [Act.put, n1, n2, n3]
      refine gr (rs := [11]) (gcB 11 (some 22) rfl rfl hqt73 (known_h h (some ⟨Bt69, 0, none⟩) 1 [th] _ (hqt73.hp 2 rfl) (reads_holds (hqt73.hold 3 rfl)) (by simp)) (fun x => cu x) ?_ gn)
      intro Yt74 hqt74
      simp only [Act.put, n1, n2, n3]
      refine gr (rs := [14]) (gcB 14 (some 25) rfl rfl hqt74 (known_h h none 0 [] _ (hqt74.hp 2 rfl) (reads_nil _) (by simp)) (fun x => cu x) ?_ gn)
      intro Yt75 hqt75
      simp only [Act.put, n1, n2, n3]
      refine gr (rs := [16]) (gcB 16 (some 27) rfl rfl hqt75 (short_nil _) (fun x => cu x) ?_ gn)
      intro Yt76 hqt76
      simp only [Act.put, n1, n2, n3]
      refine gr (rs := [17]) (gbsS 17 (some 28) rfl rfl (by kernel_rfl) (ex_bsE6 rfl rfl rfl rfl rfl rfl rfl) (Nat.succ_pos _) hqt76 (fun _ hZ => cu hZ) ?_ gn)
      intro Yt77 Bt77 hEt77 hqt77
      clear hEt77
      simp only [Act.put, n1, n2, n3]
      refine gr (rs := [18]) (gcW 18 (some 29) rfl rfl (cu hqt77) (or_any Bt77 6 [thE ((j : Int) + 1) h.l.length, soundE [th], soundE [], knownE h.l.length [th], knownE h.l.length [], 0] _ (hqt77.hold 5 rfl) (by simp)) ?_ gn)
      refine gp 19 (some 10) (.int .i64 (orE [thE ((j : Int) + 1) h.l.length, soundE [th], soundE [], knownE h.l.length [th], knownE h.l.length [], 0])) rfl rfl (cu hqt77) ?_
      simp only [Act.put, n1, n2, n3]
      refine wpAnyH_done (by kernel_rfl) ?_ _
      try simp only [Act.put, n1, n2, n3]
      have SS := hide (Sy.front (L := [boxO Ba th.cs, boxO Bb zeroV.cs]) (Sy.left (L := [boxO Ba th.cs, boxO Bb zeroV.cs, hpO h]) (M := [boxO Bt69 ([th].flatMap VV.cs), boxO Bt71 ([th].flatMap VV.cs), boxO Bt77 (ints [thE ((j : Int) + 1) h.l.length, soundE [th], soundE [], knownE h.l.length [th], knownE h.l.length [], 0])]) hqt77))
      go_wp2_with (first | go_skip | ((with_reducible show wpList _ _ _ _ _ _); first | (refine rd (by rfl) (ex_neE0 rfl rfl rfl hz) ?_; simp only [Act.put, n1, n2, n3]) | (refine zL (th.cs) 24 5 1 rwV szV (by rfl) rfl rfl SS rfl rfl rfl ?_; simp only [Act.put, n1, n2, n3])))
      refine (unhide HC _ (HP.To.end H (unhide SS) rfl)).mono ?_
      rintro _ Y2 ⟨h1, V, er, x, rfl, hfin, N2, T2⟩
      have hb1 : h1.b = h.b := T2.hb
      have HX : ∀ b ∈ x.bs, w.heap.size ≤ b := fun b hb => Nat.le_trans (unhide SS).fr.size (N2.lo b hb)
      replace SS := hide (Sy.endO (unhide SS) T2 N2)
      clear T2 N2
      try rw [vagg]
      go_wp2_with (first | go_skip | ((with_reducible show wpList _ _ _ _ _ _); first | (refine zS (V.cs) 2 24 (by rfl) rfl rfl rfl rfl (oneV _) szV SS rfl ?_; clear SS; intro Xz SS; simp only [Act.put, n1, n2, n3])))
      refine bodyPost_ret (res_ct rwV szV rfl rfl rfl ((unhide SS).hold 2 rfl) rfl) rfl ?_
      exact ⟨h1, V, er, x, rfl, hfin, New.of (unhide SS) 3 rfl (by decide) (not_olds H HX), HP.To.end H (unhide SS) hb1⟩
    · intro Yt79 Bt79 hEt79 hqt79
      clear hEt79
      simp only [Act.put, n1, n2, n3]
      refine gr (rs := [2]) (gcW 2 (some 13) rfl rfl (cu hqt79) (there_h h ((j : Int) + 1) _ (hqt79.hp 2 rfl)) ?_ gn)
      simp only [Act.put, n1, n2, n3]
      refine gr (rs := [5]) (gcB 5 (some 16) rfl rfl hqt79 (sound_h (some ⟨Bt79, 0, none⟩) 1 [th] _ (hT.fr hqt79.fr H.low).1 (reads_holds (hqt79.hold 4 rfl)) (by simp)) (fun x => cu x) ?_ gn)
      intro Yt81 hqt81
      simp only [Act.put, n1, n2, n3]
      refine gr (rs := [7]) (gcB 7 (some 18) rfl rfl hqt81 (sound_h none 0 [] _ (hT.fr hqt81.fr H.low).1 (reads_nil _) (by simp)) (fun x => cu x) ?_ gn)
      intro Yt82 hqt82
      simp only [Act.put, n1, n2, n3]
      refine gr (rs := [11]) (gcB 11 (some 22) rfl rfl hqt82 (known_h h (some ⟨Bt69, 0, none⟩) 1 [th] _ (hqt82.hp 2 rfl) (reads_holds (hqt82.hold 3 rfl)) (by simp)) (fun x => cu x) ?_ gn)
      intro Yt83 hqt83
      simp only [Act.put, n1, n2, n3]
      refine gr (rs := [14]) (gcB 14 (some 25) rfl rfl hqt83 (known_h h none 0 [] _ (hqt83.hp 2 rfl) (reads_nil _) (by simp)) (fun x => cu x) ?_ gn)
      intro Yt84 hqt84
      simp only [Act.put, n1, n2, n3]
      refine gr (rs := [16]) (gcB 16 (some 27) rfl rfl hqt84 (short_nil _) (fun x => cu x) ?_ gn)
      intro Yt85 hqt85
      simp only [Act.put, n1, n2, n3]
      refine gr (rs := [17]) (gbsS 17 (some 28) rfl rfl (by kernel_rfl) (ex_bsE6 rfl rfl rfl rfl rfl rfl rfl) (Nat.succ_pos _) hqt85 (fun _ hZ => cu hZ) ?_ gn)
      intro Yt86 Bt86 hEt86 hqt86
      clear hEt86
      simp only [Act.put, n1, n2, n3]
      refine gr (rs := [18]) (gcW 18 (some 29) rfl rfl (cu hqt86) (or_any Bt86 6 [thE ((j : Int) + 1) h.l.length, soundE [th], soundE [], knownE h.l.length [th], knownE h.l.length [], 0] _ (hqt86.hold 5 rfl) (by simp)) ?_ gn)
      refine gp 19 (some 10) (.int .i64 (orE [thE ((j : Int) + 1) h.l.length, soundE [th], soundE [], knownE h.l.length [th], knownE h.l.length [], 0])) rfl rfl (cu hqt86) ?_
      simp only [Act.put, n1, n2, n3]
      refine wpAnyH_done (by kernel_rfl) ?_ _
      try simp only [Act.put, n1, n2, n3]
      have SS := hide (Sy.front (L := [boxO Ba th.cs, boxO Bb zeroV.cs]) (Sy.left (L := [boxO Ba th.cs, boxO Bb zeroV.cs, hpO h]) (M := [boxO Bt69 ([th].flatMap VV.cs), boxO Bt79 ([th].flatMap VV.cs), boxO Bt86 (ints [thE ((j : Int) + 1) h.l.length, soundE [th], soundE [], knownE h.l.length [th], knownE h.l.length [], 0])]) hqt86))
      go_wp2_with (first | go_skip | ((with_reducible show wpList _ _ _ _ _ _); first | (refine rd (by rfl) (ex_neE0 rfl rfl rfl hz) ?_; simp only [Act.put, n1, n2, n3]) | (refine zL (th.cs) 24 5 1 rwV szV (by rfl) rfl rfl SS rfl rfl rfl ?_; simp only [Act.put, n1, n2, n3])))
      refine (unhide HC _ (HP.To.end H (unhide SS) rfl)).mono ?_
      rintro _ Y2 ⟨h1, V, er, x, rfl, hfin, N2, T2⟩
      have hb1 : h1.b = h.b := T2.hb
      have HX : ∀ b ∈ x.bs, w.heap.size ≤ b := fun b hb => Nat.le_trans (unhide SS).fr.size (N2.lo b hb)
      replace SS := hide (Sy.endO (unhide SS) T2 N2)
      clear T2 N2
      try rw [vagg]
      go_wp2_with (first | go_skip | ((with_reducible show wpList _ _ _ _ _ _); first | (refine zS (V.cs) 2 24 (by rfl) rfl rfl rfl rfl (oneV _) szV SS rfl ?_; clear SS; intro Xz SS; simp only [Act.put, n1, n2, n3])))
      refine bodyPost_ret (res_ct rwV szV rfl rfl rfl ((unhide SS).hold 2 rfl) rfl) rfl ?_
      exact ⟨h1, V, er, x, rfl, hfin, New.of (unhide SS) 3 rfl (by decide) (not_olds H HX), HP.To.end H (unhide SS) hb1⟩
