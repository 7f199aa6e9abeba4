import Derived.Test.YtcflglloopgieaaLa
namespace Go.Proofs.Ytcflglloopgieaa
open Go Go.Proofs Go.Maps Go.RowKit FM
set_option linter.unusedSimpArgs false
set_option linter.unusedVariables false
set_option maxHeartbeats 1000000

theorem shO_nil (w : World) (base : Nat) : Sy w w [] (shO base (.slice none 0 0) []) :=
  ⟨Fr.refl _ _, by simp [shO, rowS, rowO_ok], by
    intro o ho
    have : o = rowS base (.slice none 0 0) [] := by simpa [shO] using ho
    subst this
    exact ⟨rfl, .inl ⟨rfl, rfl⟩⟩, by simp [shO, rowS, rowO, Value.ownBlock], by simp [shO]⟩
section
variable {ops : Array Oper} {rest : List Oper} {Q : Exit → Act → World → Prop} {w w0 : World} {a : Act} {o : Oper} {E : List Nat} {L : List Ob}
theorem ap0 {c base : Nat} {A : Option Addr} {v : Value} {l : List PR} {s x : Operand} (i : Nat) (hw : Region.wanted o (yielded ops a.tmps) = true) (ho : o.op = .call { callee := .builtin .append, args := #[s, x], argTypes := #[46, 46] }) (hs : a.eval s = v) (hx : a.eval x = .slice A l.length c) (hL : Sy w0 w E L)
    (hi : L[i]? = some (rowO base 56 20 v 0 [])) (hR : ReadsP w A l) (hc : A = none → c = 0) (hn : l.length ≤ 1000000) (hbase : base ≤ w.heap.size)
    (h : ∀ A' c' X, Sy w0 X E (L.set i (rowO base 56 20 (.slice A' l.length c') l.length (flatP l))) → wpList Try.prog ops Q rest (a.put o.dst (.slice A' l.length c')) X) : wpList Try.prog ops Q (o :: rest) a w :=
  apR i hw ho hs hx hL hi hR hc (by omega) hbase (fun A' c' X hS => by
    rw [List.nil_append, Nat.zero_add] at hS
    rw [Nat.zero_add]
    exact h A' c' X hS)
end
def CpPost (w : World) (l : List SH) (e : Ending) (X : World) : Prop := ∃ (v : Value) (cl : List CE), e = .returned v ∧ Sy w X [] (shO w.heap.size v cl) ∧ cl.map CE.s = l ∧ ∀ e ∈ cl, GC e
theorem take_snoc {l : List SH} {i : Nat} {s : SH} {cl : List CE} {e : CE} (hs : l[i]? = some s) (h : cl.map CE.s = l.take i) (he : e.s = s) : (cl ++ [e]).map CE.s = l.take (i + 1) := by
  obtain ⟨hi, rfl⟩ := List.getElem?_eq_some_iff.1 hs
  rw [List.take_succ_eq_append_getElem hi, List.map_append, h, ← he]
  rfl
/-- A slice of shapes whose properties can be copied. -/
def ReadsC (w : World) (A : Option Addr) (l : List SH) : Prop := ∀ j s, l[j]? = some s → s.p.x < 2 ^ 64 ∧ s.ps.length ≤ 100000 ∧ ∃ b off SA cap, A = some ⟨b, off, none⟩ ∧ b < w.heap.size ∧ ReadsP w SA s.ps ∧ w.rangeAt b (off + j * 8) (s.cs SA cap) ∧ (SA = none → cap = 0)
set_option maxHeartbeats 4000000 in
set_option maxRecDepth 100000 in
theorem copyS_any (A : Option Addr) (cap : Nat) (l : List SH) (w : World) (hR : ReadsC w A l) (hn : l.length ≤ 1000) : Calls Try.prog 5 #[.slice A l.length cap] w (CpPost w l) := by
  have HR := hide hR
  have HN := hide hn
  have LL := hide (shO_nil w w.heap.size)
  clear hR hn
  go_enter Try.func5, Try.ntmps5
  go_wp2_with (first | go_skip | ((with_reducible show wpList _ _ _ _ _ _); first | ((refine rd (by rfl) (ex_lenG 22 48 Try.underlying22 rfl rfl) ?_); simp only [Act.put, List.setIfInBounds_toArray, List.set_cons_succ, List.set_cons_zero])))
  go_loopg [3, 4] l.length (fun gm s3 s4 wr => ∃ (i : Nat) (cl : List CE), s4 = .int .i64 (i : Nat) ∧ i ≤ l.length ∧ l.length - i ≤ gm ∧ Hid (cl.map CE.s = l.take i ∧ ∀ e ∈ cl, GC e) ∧ Hid (Sy w wr [] (shO w.heap.size s3 cl)))
  case atStart => exact ⟨0, [], rfl, by omega, by omega, hide ⟨by simp, by simp⟩, LL⟩
  case round =>
    clear LL
    obtain ⟨i, cl, rfl, hil, hgm, HCL, LL⟩ := hrel
    obtain ⟨AA, cc, rfl⟩ := own_form ((unhide LL).get 0 rfl)
    by_cases hlt : i < l.length
    · have dlt : decide ((i : Int) < (l.length : Int)) = true := decide_eq_true (by omega)
      have hw1 : IntKind.i64.wrap ((i : Int) + 1) = (i : Int) + 1 := by have := unhide HN; rw [IntKind.wrap_i64]; omega
      obtain ⟨s, hs⟩ : ∃ s, l[i]? = some s := ⟨_, List.getElem?_eq_getElem hlt⟩
      obtain ⟨hx64, hz, b, off, SA, sc, hA, hb, hps, hrg, hc0⟩ := (unhide HR) i s hs
      have HA1 := hide hA
      have HA2 : Hid (∀ X, Fr w X [] → X.rangeAt b (off + i * 8) (s.cs SA sc)) := hide (fun X hX => rangeAt_fr hrg hb hX)
      have HPS := hide hps
      have HZ := hide hz
      have HC0 := hide hc0
      have HLT := hide hlt
      have HS := hide hs
      have HOKP : ∀ p ∈ s.ps, OkP p := fun p hp => by obtain ⟨j, hj⟩ := List.getElem?_of_mem hp; exact (hps j p hj).1
      have HCN : Hid (cl.length + 1 ≤ 1000000) := hide (by have h1 := congrArg List.length (unhide HCL).1; rw [List.length_map, List.length_take] at h1; have := unhide HN; omega)
      have HGC0 := hide (And.intro hx64 (And.intro hz HOKP))
      replace LL : Hid (Sy w wr [] (rowO w.heap.size 48 8 (.slice AA cl.length cc) cl.length (cl.flatMap CE.cs) :: cl.map (rowP w.heap.size))) := LL
      clear hA hb hrg hps hz hc0 hx64 hs hlt hil HOKP
      go_wp2_with (first | go_skip | ((with_reducible show wpList _ _ _ _ _ _); first | ((refine rd (by rfl) (ex_lenG 22 48 Try.underlying22 rfl rfl) ?_); simp only [Act.put, List.setIfInBounds_toArray, List.set_cons_succ, List.set_cons_zero]) | ((refine rd (by rfl) (ex_indexA 22 8 i unSs idSs rfl rfl (unhide HA1) rfl (unhide HLT)) ?_); simp only [Act.put, List.setIfInBounds_toArray, List.set_cons_succ, List.set_cons_zero]) | ((refine rd (by rfl) (ex_loadR (vs := s.cs SA sc) 48 8 rwS szS rfl rfl (unhide HA2 _ (unhide LL).fr) rfl) ?_); simp only [Act.put, List.setIfInBounds_toArray, List.set_cons_succ, List.set_cons_zero]) | ((refine alP (v := .agg (zeroS.cs none 0).toArray) 48 (zeroS.cs none 0) (by rfl) rfl (fun w => by kernel_rfl) rfl (Nat.succ_pos _) (unhide LL) ?_); intro X5 B5 hE5 L5 hb5; replace LL := hide L5; clear L5 hb5 hE5; simp only [Act.put, List.setIfInBounds_toArray, List.set_cons_succ, List.set_cons_zero]) | ((refine stS (vs := s.cs SA sc) 0 48 (by rfl) rfl rfl rfl rfl (shcs_one s SA sc) szS (unhide LL) rfl (by simp [cput, SH.cs, VV.cs, zeroS, zeroV]) ?_); intro X6 L6 hf6 hs6; replace LL := hide L6; clear L6 hf6 hs6; simp only [Act.put, List.setIfInBounds_toArray, List.set_cons_succ, List.set_cons_zero]) | ((refine noP w.heap.size (unhide LL).fr.size (by rfl) rfl (unhide LL) ?_); intro X7 B7 hE7 L7 hb7; replace LL := hide L7; clear L7 hb7 hE7; simp only [Act.put, List.setIfInBounds_toArray, List.set_cons_succ, List.set_cons_zero]) | ((refine rd (by rfl) (ex_load1 46 Try.isAgg46 rfl rfl ((unhide LL).hold 1 rfl) rfl) ?_); simp only [Act.put, List.setIfInBounds_toArray, List.set_cons_succ, List.set_cons_zero]) | ((refine ap0 (l := s.ps) (base := w.heap.size) 0 (by rfl) rfl rfl rfl (unhide LL) rfl ((unhide HPS).fr (unhide LL).fr) (unhide HC0) (by have := unhide HZ; omega) (unhide LL).fr.size ?_); intro A8 c8 X8 L8; replace LL := hide L8; clear L8; simp only [Act.put, List.setIfInBounds_toArray, List.set_cons_succ, List.set_cons_zero]) | ((refine stS (vs := [.slice A8 s.ps.length c8]) 1 46 (by rfl) rfl rfl rfl rfl (by simp [Value.oneCell']) szPs (unhide LL) rfl (by simp [cput, SH.cs, VV.cs, zeroS, zeroV]) ?_); intro X9 L9 hf9 hs9; replace LL := hide L9; clear L9 hf9 hs9; simp only [Act.put, List.setIfInBounds_toArray, List.set_cons_succ, List.set_cons_zero]) | ((refine rd (by rfl) (ex_loadN (vs := s.cs A8 c8) 48 8 rwS szS rfl rfl ((unhide LL).hold 1 rfl) rfl rfl) ?_); simp only [Act.put, List.setIfInBounds_toArray, List.set_cons_succ, List.set_cons_zero]) | ((refine bsP (cs := s.cs A8 c8) (by rfl) rfl rfl Try.underlying22 inf28 (by decide) rfl rfl (by decide) (unhide LL) ?_); intro X10 B10 hE10 L10 hb10; replace LL := hide L10; clear L10 hb10 hE10; simp only [Act.put, List.setIfInBounds_toArray, List.set_cons_succ, List.set_cons_zero]) | ((refine apS (size := 8) (bytes := 88) (base := w.heap.size) (k := cl.length) (xs := cl.flatMap CE.cs) (news := s.cs A8 c8) (v := .slice AA cl.length cc) 3 0 rfl rfl rfl rfl Try.underlying22 inf28 rfl (by decide) (unhide LL) rfl rfl rfl (shcs_one s A8 c8) (unhide HCN) (by decide) (unhide LL).fr.size ?_); intro A11 c11 X11 L11; replace LL := hide L11; clear L11; simp only [Act.put, List.setIfInBounds_toArray, List.set_cons_succ, List.set_cons_zero])))
      have HGC : Hid (GC ⟨s, A8, c8⟩) := HGC0
      have LN : Hid (Sy w X11 [] (shO w.heap.size (.slice A11 (cl ++ [(⟨s, A8, c8⟩ : CE)]).length c11) (cl ++ [(⟨s, A8, c8⟩ : CE)]))) := hide (by rw [shO_snoc, List.length_append]; exact (unhide LL).tail.back.tail)
      have HCN2 : Hid ((cl ++ [(⟨s, A8, c8⟩ : CE)]).map CE.s = l.take (i + 1) ∧ ∀ x ∈ cl ++ [(⟨s, A8, c8⟩ : CE)], GC x) := hide ⟨take_snoc (unhide HS) (unhide HCL).1 rfl, fun x hx => by rcases List.mem_append.1 hx with h | h; exact (unhide HCL).2 x h; rw [List.mem_singleton.1 h]; exact unhide HGC⟩
      clear LL
      go_roundg (l.length - (i + 1))
      case measure => have := unhide HLT; omega
      case rel => exact ⟨i + 1, cl ++ [(⟨s, A8, c8⟩ : CE)], by go_num, by have := unhide HLT; omega, by omega, HCN2, by simpa using LN⟩
    · obtain rfl : i = l.length := by omega
      clear hlt hil
      go_wp2_with (first | go_skip | ((with_reducible show wpList _ _ _ _ _ _); first | ((refine rd (by rfl) (ex_lenG 22 48 Try.underlying22 rfl rfl) ?_); simp only [Act.put, List.setIfInBounds_toArray, List.set_cons_succ, List.set_cons_zero])))
      go_ret
      exact ⟨_, cl, rfl, unhide LL, by rw [(unhide HCL).1, List.take_length], (unhide HCL).2⟩
theorem abs_goodC {w X : World} {B k : Nat} {d : DR} (h : DI w X B k d) (hk : k ≤ 100000) : d.abs.p.x < 2 ^ 64 ∧ d.abs.ps.length ≤ 100000 ∧ ∀ p ∈ d.abs.ps, OkP p := by
  obtain ⟨h1, _, h3⟩ := abs_good h hk
  refine ⟨h1, ?_, h3⟩
  cases hx : d.rx with
  | none =>
    have : d.abs.ps = d.s.ps := by simp [DR.abs, hx]
    rw [this]
    have := h.gd.2.2.1
    omega
  | some x =>
    have : d.abs.ps = lvs x.rs := by simp [DR.abs, hx]
    rw [this]
    have h1 := lvs_len x.rs
    have := (h.rows x hx).len
    omega
set_option maxHeartbeats 4000000 in
set_option maxRecDepth 100000 in
theorem shapesS_any (w X : World) (v : Value) (ds : List DB) (hS : Sy w X [] (core w v ds)) (hn : ds.length ≤ 100000) (hks : ∀ p ∈ ds, p.k ≤ 100000) : Calls Try.prog 14 #[v] X (CpPost X (absL ds)) := by
  have HN := hide hn
  have HKS := hide hks
  obtain ⟨A, c, rfl⟩ := own_form (hS.get 0 rfl)
  have HS0 := hide hS
  have LL := hide (Sy.nil X [])
  clear hS hn hks
  go_enter Try.func14, Try.ntmps14
  go_wp2_with (first | go_skip | ((with_reducible show wpList _ _ _ _ _ _); first | ((refine rd (by rfl) (ex_lenG 50 60 Try.underlying50 rfl rfl) ?_); simp only [Act.put, List.setIfInBounds_toArray, List.set_cons_succ, List.set_cons_zero]) | ((refine mkS X.heap.size ds.length (by rfl) rfl rfl rfl Try.underlying22 inf28 (unhide HN) (by decide) (by decide) (unhide LL) (unhide LL).fr.size ?_); intro X1 B1 hE1 L1 hb1; replace LL := hide L1; clear L1 hb1 hE1; simp only [Act.put, List.setIfInBounds_toArray, List.set_cons_succ, List.set_cons_zero])))
  go_loopg [3, 12] ds.length (fun gm s3 s12 wr => ∃ (i : Nat) (cl : List CE), s12 = .int .i64 (i : Nat) ∧ i ≤ ds.length ∧ ds.length - i ≤ gm ∧ Hid (cl.map CE.s = (absL ds).take i ∧ ∀ e ∈ cl, GC e) ∧ Hid (Sy X wr [] (shO X.heap.size s3 cl)))
  case atStart => exact ⟨0, [], rfl, by omega, by omega, hide ⟨by simp, by simp⟩, LL⟩
  case round =>
    clear LL
    obtain ⟨i, cl, rfl, hil, hgm, HCL, LL⟩ := hrel
    obtain ⟨AA, cc, rfl⟩ := own_form ((unhide LL).get 0 rfl)
    by_cases hlt : i < ds.length
    · have dlt : decide ((i : Int) < (ds.length : Int)) = true := decide_eq_true (by omega)
      have hw1 : IntKind.i64.wrap ((i : Int) + 1) = (i : Int) + 1 := by have := unhide HN; rw [IntKind.wrap_i64]; omega
      obtain ⟨p, hp⟩ : ∃ p, ds[i]? = some p := ⟨_, List.getElem?_eq_getElem hlt⟩
      obtain ⟨g, c0, hv, hce⟩ := ptr_at ((unhide HS0).get 0 rfl) hp
      have hglt := (World.ownsRow.lt ((unhide HS0).get 0 rfl) g (by rw [hv]; rfl)).2
      cases hv
      have hdi : DI w X p.b p.k p.d := (unhide HS0).ho (dbO w p) (List.mem_cons_of_mem _ (List.mem_map.2 ⟨p, List.mem_of_getElem? hp, rfl⟩))
      have hkp := (unhide HKS) p (List.mem_of_getElem? hp)
      have HS : Hid ((absL ds)[i]? = some p.d.abs) := hide (by simp [absL, hp])
      have HCN : Hid (cl.length + 1 ≤ 1000000) := hide (by have h1 := congrArg List.length (unhide HCL).1; rw [List.length_map, List.length_take] at h1; have := unhide HN; omega)
      obtain ⟨b, k, d⟩ := p
      dsimp only at *
      have HA1 : Hid (some (⟨g, 0, none⟩ : Addr) = some ⟨g, 0, none⟩) := hide rfl
      have HA2 : Hid (∀ Z, Fr X Z [] → Z.cell? ⟨g, 0 + i * 1, none⟩ = some (.pointer (some ⟨b, 0, none⟩))) := hide (fun Z hZ => (World.cell?_of_block (hZ.block g hglt (by simp))).trans hce)
      have HDI : Hid (∀ Z, Fr X Z [] → DI w Z b k d) := hide (fun Z hZ => hdi.on hZ)
      have HGC0 := hide (abs_goodC hdi hkp)
      have HSV := hide hdi.gd.1
      have HKP := hide hkp
      have HLT := hide hlt
      replace LL : Hid (Sy X wr [] (rowO X.heap.size 48 8 (.slice AA cl.length cc) cl.length (cl.flatMap CE.cs) :: cl.map (rowP X.heap.size))) := LL
      clear hp hce hglt hdi hkp hlt hil
      go_wp2_with (first | go_skip | ((with_reducible show wpList _ _ _ _ _ _); first | ((refine rd (by rfl) (ex_lenG 50 60 Try.underlying50 rfl rfl) ?_); simp only [Act.put, List.setIfInBounds_toArray, List.set_cons_succ, List.set_cons_zero]) | ((refine rd (by rfl) (ex_indexA 50 1 i unXs idXs rfl rfl (unhide HA1) rfl (unhide HLT)) ?_); simp only [Act.put, List.setIfInBounds_toArray, List.set_cons_succ, List.set_cons_zero]) | ((refine rd (by rfl) (ex_loadC 60 Try.isAgg60 rfl rfl (unhide HA2 _ (unhide LL).fr)) ?_); simp only [Act.put, List.setIfInBounds_toArray, List.set_cons_succ, List.set_cons_zero]) | ((refine rd (by rfl) (ex_loadN (vs := d.s.cs d.A d.cap) 48 8 rwS szS rfl rfl (unhide HDI _ (unhide LL).fr).hold rfl rfl) ?_); simp only [Act.put, List.setIfInBounds_toArray, List.set_cons_succ, List.set_cons_zero]) | ((refine alP (v := .agg (zeroS.cs none 0).toArray) 48 (zeroS.cs none 0) (by rfl) rfl (fun w => by kernel_rfl) rfl (Nat.succ_pos _) (unhide LL) ?_); intro X5 B5 hE5 L5 hb5; replace LL := hide L5; clear L5 hb5 hE5; simp only [Act.put, List.setIfInBounds_toArray, List.set_cons_succ, List.set_cons_zero]) | ((refine stS (vs := d.s.cs d.A d.cap) 0 48 (by rfl) rfl rfl rfl rfl (shcs_one d.s d.A d.cap) szS (unhide LL) rfl (by simp [cput, SH.cs, VV.cs, zeroS, zeroV]) ?_); intro X6 L6 hf6 hs6; replace LL := hide L6; clear L6 hf6 hs6; simp only [Act.put, List.setIfInBounds_toArray, List.set_cons_succ, List.set_cons_zero]) | ((refine rd (by rfl) (ex_loadN (vs := d.s.p.cs) 28 5 rwV szV rfl rfl ((unhide LL).hold 0 rfl) rfl rfl) ?_); simp only [Act.put, List.setIfInBounds_toArray, List.set_cons_succ, List.set_cons_zero])))
      have hnv := newValue_any d.s.p
      simp only [vagg] at hnv
      refine (hnv _ (unhide HSV)).mono ?_
      clear hnv
      rintro e Y2 ⟨rfl, hY2⟩
      replace LL := hide ((unhide LL).on hY2)
      clear hY2
      go_wp2_with fail
      refine (propsD_any d b k w _ ((unhide HS0).fr.trans (unhide LL).fr (by simp)) (unhide HDI _ (unhide LL).fr) (unhide HKP)).mono ?_
      rintro e Y3 ⟨A8, c8, rfl, hO, hb⟩
      have hadd : Sy X Y3 [] (rowO X.heap.size 56 20 (.slice A8 d.abs.ps.length c8) d.abs.ps.length (flatP d.abs.ps) :: _) := ((unhide LL).add (rowO_ok _ _ _ _ _ _) (own_mono hO (unhide LL).fr.size) hb (fun g hg => (World.ownsRow.lt hO g (by simpa [rowO] using hg)).1)).front
      replace LL := hide hadd
      clear hO hb hadd
      go_wp2_with (first | go_skip | ((with_reducible show wpList _ _ _ _ _ _); first | ((refine rd (by rfl) (ex_lenG 50 60 Try.underlying50 rfl rfl) ?_); simp only [Act.put, List.setIfInBounds_toArray, List.set_cons_succ, List.set_cons_zero]) | ((refine stS (vs := d.s.p.cs) 1 28 (by rfl) rfl rfl rfl rfl (vcs_one d.s.p) szV (unhide LL) rfl (by simp [cput, SH.cs, VV.cs, zeroS, zeroV]) ?_); intro X7 L7 hf7 hs7; replace LL := hide L7; clear L7 hf7 hs7; simp only [Act.put, List.setIfInBounds_toArray, List.set_cons_succ, List.set_cons_zero]) | ((refine stS (vs := [.slice A8 d.abs.ps.length c8]) 1 46 (by rfl) rfl rfl rfl rfl (by simp [Value.oneCell']) szPs (unhide LL) rfl (by simp [cput, SH.cs, VV.cs, zeroS, zeroV]) ?_); intro X9 L9 hf9 hs9; replace LL := hide L9; clear L9 hf9 hs9; simp only [Act.put, List.setIfInBounds_toArray, List.set_cons_succ, List.set_cons_zero]) | ((refine rd (by rfl) (ex_loadN (vs := d.abs.cs A8 c8) 48 8 rwS szS rfl rfl ((unhide LL).hold 1 rfl) rfl rfl) ?_); simp only [Act.put, List.setIfInBounds_toArray, List.set_cons_succ, List.set_cons_zero]) | ((refine bsP (cs := d.abs.cs A8 c8) (by rfl) rfl rfl Try.underlying22 inf28 (by decide) rfl rfl (by decide) (unhide LL) ?_); intro X10 B10 hE10 L10 hb10; replace LL := hide L10; clear L10 hb10 hE10; simp only [Act.put, List.setIfInBounds_toArray, List.set_cons_succ, List.set_cons_zero]) | ((refine apS (size := 8) (bytes := 88) (base := X.heap.size) (k := cl.length) (xs := cl.flatMap CE.cs) (news := d.abs.cs A8 c8) (v := .slice AA cl.length cc) 3 0 rfl rfl rfl rfl Try.underlying22 inf28 rfl (by decide) (unhide LL) rfl rfl rfl (shcs_one d.abs A8 c8) (unhide HCN) (by decide) (unhide LL).fr.size ?_); intro A11 c11 X11 L11; replace LL := hide L11; clear L11; simp only [Act.put, List.setIfInBounds_toArray, List.set_cons_succ, List.set_cons_zero])))
      have HGC : Hid (GC ⟨d.abs, A8, c8⟩) := HGC0
      have LN : Hid (Sy X X11 [] (shO X.heap.size (.slice A11 (cl ++ [(⟨d.abs, A8, c8⟩ : CE)]).length c11) (cl ++ [(⟨d.abs, A8, c8⟩ : CE)]))) := hide (by rw [shO_snoc, List.length_append]; exact (unhide LL).tail.back.tail)
      have HCN2 : Hid ((cl ++ [(⟨d.abs, A8, c8⟩ : CE)]).map CE.s = (absL ds).take (i + 1) ∧ ∀ x ∈ cl ++ [(⟨d.abs, A8, c8⟩ : CE)], GC x) := hide ⟨take_snoc (unhide HS) (unhide HCL).1 rfl, fun x hx => by rcases List.mem_append.1 hx with h | h; exact (unhide HCL).2 x h; rw [List.mem_singleton.1 h]; exact unhide HGC⟩
      clear LL
      go_roundg (ds.length - (i + 1))
      case measure => have := unhide HLT; omega
      case rel => exact ⟨i + 1, cl ++ [(⟨d.abs, A8, c8⟩ : CE)], by go_num, by have := unhide HLT; omega, by omega, HCN2, by simpa using LN⟩
    · obtain rfl : i = ds.length := by omega
      have hll : (absL ds).length = ds.length := by simp [absL]
      have HCE : Hid (cl.map CE.s = absL ds) := hide (by rw [(unhide HCL).1, ← hll, List.take_length])
      clear hlt hil hll
      go_wp2_with (first | go_skip | ((with_reducible show wpList _ _ _ _ _ _); first | ((refine rd (by rfl) (ex_lenG 50 60 Try.underlying50 rfl rfl) ?_); simp only [Act.put, List.setIfInBounds_toArray, List.set_cons_succ, List.set_cons_zero])))
      go_ret
      exact ⟨_, cl, rfl, unhide LL, unhide HCE, (unhide HCL).2⟩
end Go.Proofs.Ytcflglloopgieaa
