import Derived.Test.YtmgflhhealdfoaaGreatDoorRo
set_option linter.all false
namespace Go.Proofs.YtmgflhhealdfoaaGreatDoor
set_option maxHeartbeats 1000000
section
open Go Go.Proofs Go.Maps Go.RowKit FM
attribute [local go_sem] mm_GetOwnProperty mm_DefineOwnProperty mm_Get ta_caller ta_builder
/-- How a call of a function ends. -/
def EndP (h : HP) (Fin : HP → VV → Value → Ob → Prop) (w : World) (e : Ending) (w' : World) : Prop := ∃ h2 V er x, e = .returned (.tuple #[V.agg, er]) ∧ Fin h2 V er x ∧ New x h2 w.heap.size w' ∧ h.To h2 w w'
theorem not_old {h : HP} {w : World} (H : h.Is w) {B : Nat} (hB : w.heap.size ≤ B) : B ∉ h.blocks := fun hm => by have := H.lt B hm; omega
theorem not_olds {h : HP} {w : World} (H : h.Is w) {x : Ob} (hB : ∀ b ∈ x.bs, w.heap.size ≤ b) : ∀ b ∈ x.bs, b ∉ h.blocks := fun b hb => not_old H (hB b hb)
theorem Sy.swap {w X : World} {E : List Nat} {L : List Ob} {a f : Ob} (S : Sy w X E (a :: (L ++ [f]))) : Sy w X E (a :: f :: L) := S.perm ((List.perm_append_singleton f L).cons a)
set_option maxRecDepth 100000 in
theorem Own_h (h : HP) (j : Nat) (q : OB) (w : World) (H : h.Is w) (hl : h.l.length ≤ 65536) (hj : h.l[j]? = some q) : Calls Tryz.prog 167 #[.pointer (some ⟨h.b, 0, none⟩), .int .i64 ((j : Int) + 1)] w fun e w' => e = .returned (ow1 q.ow) ∧ w' = w := by
  have hlt := (List.getElem?_eq_some_iff.1 hj).1
  have hh : hasH ((j : Int) + 1) h.l.length = true := by unfold hasH; simp; omega
  have HO := hide (H.ob hj).1
  go_enter Tryz.func167, Tryz.ntmps167
  go_wp2_with fail
  refine (has_h h _ _ H).mono ?_
  rintro _ _ ⟨rfl, rfl⟩
  rw [hh]
  go_wp2_with fail
  refine (at_h h j q _ H hj hl).mono ?_
  rintro _ _ ⟨rfl, rfl⟩
  go_wp2_with (first | go_skip | ((with_reducible show wpList _ _ _ _ _ _); first | (refine rd (by rfl) (ex_load1 20 Tryz.isAgg20 rfl rfl (unhide HO) rfl) ?_; simp only [Act.put, n1, n2, n3])))
  go_ret
  exact ⟨rfl, rfl⟩
/-- What a function alone has. -/
def pgC (g c n : Nat) (ct : Bool) : List Value := [.slice (some ⟨g, 0, none⟩) n c, .bool ct]
def pgV (g c : Nat) (l : List OP) (ct : Bool) : Value := .agg (pgC g c l.length ct).toArray
def pgZ : List Value := [.slice none 0 0, .bool false]
theorem pg_one (g c n : Nat) (ct : Bool) : ∀ u ∈ pgC g c n ct, u.oneCell' = true := by simp [pgC, Value.oneCell']
theorem rwG_ : ∃ d, Tryz.prog.underlying 81 = some d ∧ d.isRow = true := ⟨_, Tryz.underlying81, rfl⟩
theorem szG_ : (Tryz.prog.info? 81).map (·.size) = some 2 := by kernel_rfl
theorem ta_pg (v : Value) (w : World) : (Instr.typeAssert (.iface 81 v) 20 81 true).run Tryz.prog w = .ok (.tuple #[v, .bool true]) w := by
  unfold Instr.typeAssert
  simp [go_sem]
attribute [local go_sem] ta_pg
set_option maxRecDepth 100000 in
theorem prog_h (h : HP) (j : Nat) (q : OB) (g c : Nat) (l : List OP) (ct : Bool) (w : World) (H : h.Is w) (hl : h.l.length ≤ 65536) (hj : h.l[j]? = some q) (ho : q.ow = some (81, pgV g c l ct)) : Calls Tryz.prog 165 #[.pointer (some ⟨h.b, 0, none⟩), .int .i64 ((j : Int) + 1)] w fun e w' => e = .returned (.tuple #[pgV g c l ct, .bool true]) ∧ Below w.heap.size w w' := by
  have HC := fun (X : World) (s : h.Is X) => Own_h h j q X s hl hj
  rw [ho] at HC
  unfold pgV at *
  have HC2 : Hid (∀ X, h.Is X → Calls Tryz.prog 167 #[.pointer (some ⟨h.b, 0, none⟩), .int .i64 ((j : Int) + 1)] X fun e w' => e = .returned (.iface 81 (.agg (pgC g c l.length ct).toArray)) ∧ w' = X) := hide HC
  clear HC
  have SS := hide (Sy.nil w [])
  go_enter Tryz.func165, Tryz.ntmps165
  go_wp2_with (first | go_skip | ((with_reducible show wpList _ _ _ _ _ _); first | (refine zA 81 (pgZ) (by rfl) rfl SS ?_; clear SS; intro Xa Ba SS; simp only [Act.put, n1, n2, n3])))
  refine (unhide HC2 _ (H.on (unhide SS).fr.below)).mono ?_
  rintro _ _ ⟨rfl, rfl⟩
  go_wp2_with (first | go_skip | ((with_reducible show wpList _ _ _ _ _ _); first | (refine zA 81 (pgZ) (by rfl) rfl SS ?_; clear SS; intro Xb Bb SS; simp only [Act.put, n1, n2, n3]) | (refine zS (hp := (show 0 + 2 ≤ 2 by decide)) ((pgC g c l.length ct)) 1 81 (by rfl) rfl rfl rfl rfl (pg_one _ _ _ _) szG_ SS rfl ?_; clear SS; intro Xc SS; simp only [Act.put, n1, n2, n3]) | (refine zL ((pgC g c l.length ct)) 81 2 1 rwG_ szG_ (by rfl) rfl rfl SS rfl rfl rfl ?_; simp only [Act.put, n1, n2, n3]) | (refine zS (hp := (show 0 + 2 ≤ 2 by decide)) ((pgC g c l.length ct)) 0 81 (by rfl) rfl rfl rfl rfl (pg_one _ _ _ _) szG_ SS rfl ?_; clear SS; intro Xd SS; simp only [Act.put, n1, n2, n3])))
  refine bodyPost_ret (res_ct rwG_ szG_ rfl rfl rfl ((unhide SS).hold 0 rfl) rfl) rfl ?_
  exact ⟨rfl, (unhide SS).fr.below⟩
def rgs (i : Nat) : List VV := List.replicate i undV ++ List.replicate (16 - i) zeroV
theorem rgs_len {i : Nat} (h : i ≤ 16) : (rgs i).length = 16 := by simp [rgs]; omega
theorem rgs_set {i : Nat} (h : i < 16) : (rgs i).set i undV = rgs (i + 1) := by
  rcases (by omega : i = 0 ∨ i = 1 ∨ i = 2 ∨ i = 3 ∨ i = 4 ∨ i = 5 ∨ i = 6 ∨ i = 7 ∨ i = 8 ∨ i = 9 ∨ i = 10 ∨ i = 11 ∨ i = 12 ∨ i = 13 ∨ i = 14 ∨ i = 15) with rfl | rfl | rfl | rfl | rfl | rfl | rfl | rfl | rfl | rfl | rfl | rfl | rfl | rfl | rfl | rfl <;> rfl
theorem ex_bFr {o : Oper} {a : Act} {w : World} {x0 x1 x2 x3 x4 : Operand} (hb : Nat) (sf : Int) (th tg : VV) (A : Option Addr) (n c : Nat) (ho : o.op = .build 238 #[(0, x0), (1, x1), (2, x2), (3, x3), (4, x4)]) (h0 : a.eval x0 = .pointer (some ⟨hb, 0, none⟩)) (h1 : a.eval x1 = .int .i64 sf) (h2 : a.eval x2 = .agg th.cs.toArray) (h3 : a.eval x3 = .slice A n c) (h4 : a.eval x4 = .agg tg.cs.toArray) : (execOp a.eval o).run Tryz.prog w = .ok (.value (.agg (frC hb sf th (.slice A n c) tg (rgs 0)).toArray)) w := by
  have e : (Instr.build 238 #[(0, .pointer (some ⟨hb, 0, none⟩)), (1, .int .i64 sf), (2, .agg th.cs.toArray), (3, .slice A n c), (4, .agg tg.cs.toArray)]).run Tryz.prog w = .ok (.agg (frC hb sf th (.slice A n c) tg (rgs 0)).toArray) w := by kernel_rfl
  unfold execOp
  simp only [ho, List.map_toArray, List.map_cons, List.map_nil, h0, h1, h2, h3, h4]
  simp [e]
def zeroF : List Value := [.pointer none, .int .i64 0] ++ zeroV.cs ++ [.slice none 0 0] ++ zeroV.cs ++ (rgs 0).flatMap VV.cs
theorem fr_one {hb : Nat} {sf : Int} {th tg : VV} {A : Option Addr} {n c : Nat} {rs : List VV} : ∀ u ∈ frC hb sf th (.slice A n c) tg rs, u.oneCell' = true := by
  intro u hu
  unfold frC at hu
  simp only [List.mem_append] at hu
  rcases hu with (((hu | hu) | hu) | hu) | hu
  · have : u = .pointer (some ⟨hb, 0, none⟩) ∨ u = .int .i64 sf := by simpa using hu
    rcases this with rfl | rfl <;> rfl
  · exact oneV th u hu
  · rw [List.mem_singleton.1 hu]; rfl
  · exact oneV tg u hu
  · obtain ⟨v, -, hv⟩ := List.mem_flatMap.1 hu
    exact oneV v u hv
theorem cput_all {a b : List Value} (h : b.length = a.length) : cput a 0 b = b := by
  unfold cput
  rw [Nat.zero_add, h, List.drop_length]
  simp
section
variable {ops : Array Oper} {rest : List Oper} {Q : Exit → Act → World → Prop} {w w0 : World} {a : Act} {o : Oper} {E : List Nat} {L : List Ob}
/-- The store of a whole frame. -/
theorem stFr {B : Nat} {cs : List Value} {x y : Operand} {hb : Nat} {sf : Int} {th tg : VV} {A : Option Addr} {n c : Nat} {rs : List VV} (i : Nat) (hw : Region.wanted o (yielded ops a.tmps) = true) (ho : o.op = .store 238 x y) (hx : a.eval x = .pointer (some ⟨B, 0, none⟩)) (hy : a.eval y = .agg (frC hb sf th (.slice A n c) tg rs).toArray) (hl : rs.length = 16) (S : Hid (Sy w0 w E L)) (hg : L[i]? = some (boxO B cs)) (hcs : cs.length = 93)
    (h : ∀ X, Hid (Sy w0 X E (L.set i (boxO B (frC hb sf th (.slice A n c) tg rs)))) → wpList Tryz.prog ops Q rest (a.put o.dst undef) X) : wpList Tryz.prog ops Q (o :: rest) a w := by
  have h93 : (frC hb sf th (.slice A n c) tg rs).length = 93 := by rw [frC_len, hl]
  refine zS (frC hb sf th (.slice A n c) tg rs) i 238 hw ho hx hy (by simp [Value.cells]) fr_one (by rw [h93]; exact szR_) S hg (fun X SX => h X ?_) (by rw [h93, hcs]; decide)
  rw [cput_all (h93.trans hcs.symm)] at SX
  exact SX
/-- The store of a register. -/
theorem stRg {B : Nat} {x y : Operand} {hb : Nat} {sf : Int} {th tg v : VV} {ar : Value} {rs : List VV} (i k : Nat) (hw : Region.wanted o (yielded ops a.tmps) = true) (ho : o.op = .store 24 x y) (hx : a.eval x = .pointer (some ⟨B, 13 + k * 5, none⟩)) (hy : a.eval y = .agg v.cs.toArray) (hk : k < rs.length) (S : Hid (Sy w0 w E L)) (hg : L[i]? = some (boxO B (frC hb sf th ar tg rs)))
    (h : ∀ X, Hid (Sy w0 X E (L.set i (boxO B (frC hb sf th ar tg (rs.set k v))))) → wpList Tryz.prog ops Q rest (a.put o.dst undef) X) : wpList Tryz.prog ops Q (o :: rest) a w := by
  refine zS v.cs i 24 hw ho hx hy rfl (oneV _) szV S hg (fun X SX => h X ?_) (by rw [frC_len]; show 13 + k * 5 + 5 ≤ 13 + rs.length * 5; omega)
  rw [fr_put hk] at SX
  exact SX
end
theorem ldF {o : Oper} {a : Act} {w : World} {x : Operand} {B : Nat} (ho : o.op = .load 105 x) (hx : a.eval x = .pointer (some ⟨B, 0, none⟩)) : (execOp a.eval o).run Tryz.prog w = .ok (.value (.agg #[])) w := by
  unfold execOp
  simp only [ho, hx]
  simp [go_sem]
set_option maxHeartbeats 2000000 in
set_option maxRecDepth 100000 in
theorem fnrun_h (h : HP) (j : Nat) (q : OB) (g c : Nat) (l : List OP) (ct : Bool) (th : VV) (A : Option Addr) (n c2 : Nat) (tg : VV) (Fin : HP → VV → Value → Ob → Prop) (w : World) (H : h.Is w) (hl : h.l.length ≤ 65536) (hj : h.l[j]? = some q) (ho : q.ow = some (81, pgV g c l ct)) (hR : ∀ B X, w.heap.size ≤ B → B < X.heap.size → h.Is X → Holds X B (frC h.b ((j : Int) + 1) th (.slice A n c2) tg (rgs 16)) → Fr w X h.blocks → Calls Tryz.prog 166 #[.pointer (some ⟨B, 0, none⟩), .slice (some ⟨g, 0, none⟩) l.length c] X (RunP h B ((j : Int) + 1) th (.slice A n c2) tg Fin X)) : Calls Tryz.prog 164 #[.agg #[], .pointer (some ⟨h.b, 0, none⟩), .int .i64 ((j : Int) + 1), th.agg, (.slice A n c2), tg.agg] w (EndP h Fin w) := by
  have SS := hide H.start
  have HP_ := hide (fun (X : World) (s : h.Is X) => prog_h h j q g c l ct X s hl hj ho)
  unfold pgV at HP_
  simp only [vagg]
  go_enter Tryz.func164, Tryz.ntmps164
  go_wp2_with (first | go_skip | ((with_reducible show wpList _ _ _ _ _ _); first | ((refine bx0 105 (by rfl) rfl rfl (unhide SS) ?_); intro X0 B0 S0; replace SS := hide S0; clear S0; simp only [Act.put, n1, n2, n3]) | (refine zB 24 (th.cs) (by rfl) rfl rfl rfl SS ?_; clear SS; intro Xa Ba SS; simp only [Act.put, n1, n2, n3]) | (refine zB 24 (tg.cs) (by rfl) rfl rfl rfl SS ?_; clear SS; intro Xb Bb SS; simp only [Act.put, n1, n2, n3]) | (refine zA 24 (zeroV.cs) (by rfl) rfl SS ?_; clear SS; intro Xc Bc SS; simp only [Act.put, n1, n2, n3])))
  refine (unhide HP_ _ ((unhide SS).hp 0 rfl)).mono ?_
  rintro _ Y1 ⟨rfl, hb1⟩
  replace SS := hide ((unhide SS).on hb1)
  clear hb1
  go_wp2_with (first | go_skip | ((with_reducible show wpList _ _ _ _ _ _); first | (refine zA 81 (pgZ) (by rfl) rfl SS ?_; clear SS; intro Xd Bd SS; simp only [Act.put, n1, n2, n3]) | (refine zS (hp := (show 0 + 2 ≤ 2 by decide)) ((pgC g c l.length ct)) 4 81 (by rfl) rfl rfl rfl rfl (pg_one _ _ _ _) szG_ SS rfl ?_; clear SS; intro Xe SS; simp only [Act.put, n1, n2, n3]) | (refine zL (th.cs) 24 5 1 rwV szV (by rfl) rfl rfl SS rfl rfl rfl ?_; simp only [Act.put, n1, n2, n3]) | (refine zL (tg.cs) 24 5 2 rwV szV (by rfl) rfl rfl SS rfl rfl rfl ?_; simp only [Act.put, n1, n2, n3]) | (refine rd (by rfl) (ex_bFr h.b ((j : Int) + 1) th tg A n c2 rfl rfl rfl rfl rfl rfl) ?_; simp only [Act.put, n1, n2, n3]) | (refine zA 238 (zeroF) (by rfl) rfl SS ?_; clear SS; intro XF BF SS; simp only [Act.put, n1, n2, n3]) | (refine stFr 5 (by rfl) rfl rfl rfl (rgs_len (by decide)) SS rfl (by rfl) ?_; clear SS; intro Xg SS; simp only [Act.put, n1, n2, n3])))
  go_loopg [30] 16 (fun gm s30 wr => ∃ i : Nat, s30 = .int .i64 (i : Nat) ∧ i ≤ 16 ∧ 16 - i ≤ gm ∧ Hid (Sy w wr h.blocks [hpO h, boxO Ba th.cs, boxO Bb tg.cs, boxO Bc zeroV.cs, boxO Bd (pgC g c l.length ct), boxO BF (frC h.b ((j : Int) + 1) th (.slice A n c2) tg (rgs i))]))
  case atStart => exact ⟨0, rfl, by omega, by omega, SS⟩
  case round =>
    clear SS
    obtain ⟨i, rfl, hil, hgm, SS⟩ := hrel
    by_cases hlt : i < 16
    · have dlt : decide ((i : Int) < 16) = true := decide_eq_true (by omega)
      have hw1 : IntKind.i64.wrap ((i : Int) + 1) = (i : Int) + 1 := by rw [IntKind.wrap_i64]; omega
      have HI := hide hlt
      have hrl := rgs_len hil
      clear hil hlt
      go_wp2_with (first | go_skip | ((with_reducible show wpList _ _ _ _ _ _); first | (refine rd (by rfl) (ex_ltI rfl rfl rfl dlt) ?_; simp only [Act.put, n1, n2, n3])))
      refine (und_v _).mono ?_
      rintro _ Y2 ⟨rfl, hb2⟩
      replace SS := hide ((unhide SS).on hb2)
      clear hb2
      rw [vagg]
      go_wp2_with (first | go_skip | ((with_reducible show wpList _ _ _ _ _ _); first | (refine rd (by rfl) (ex_ixR i rfl rfl rfl (unhide HI)) ?_; simp only [Act.put, n1, n2, n3]) | (refine stRg 5 i (by rfl) rfl rfl rfl (by rw [hrl]; exact unhide HI) SS rfl ?_; clear SS; intro Xh SS; simp only [Act.put, n1, n2, n3])))
      rw [rgs_set (unhide HI)] at SS
      go_roundg (16 - (i + 1))
      case measure => have := unhide HI; omega
      case rel => exact ⟨i + 1, by go_num, by have := unhide HI; omega, by omega, SS⟩
    · obtain rfl : i = 16 := by omega
      clear hil hlt
      have dlt : decide (((16 : Nat) : Int) < 16) = false := by decide
      go_wp2_with (first | go_skip | ((with_reducible show wpList _ _ _ _ _ _); first | (refine rd (by rfl) (ex_ltI rfl rfl rfl dlt) ?_; simp only [Act.put, n1, n2, n3]) | (refine z1 41 Tryz.isAgg41 4 (by rfl) rfl rfl SS rfl rfl ?_; simp only [Act.put, n1, n2, n3])))
      have hlo := (unhide SS).lo _ (List.mem_of_getElem? (i := 5) rfl) BF (List.mem_singleton.2 rfl)
      have hlo2 : w.heap.size ≤ BF := hlo.elim (fun hm => absurd hm (fun hm => (unhide SS).apart (i := 0) (j := 5) rfl rfl (by decide) BF hm (List.mem_singleton.2 rfl))) id
      replace SS := hide (Sy.swap (L := [boxO Ba th.cs, boxO Bb tg.cs, boxO Bc zeroV.cs, boxO Bd (pgC g c l.length ct)]) (unhide SS))
      refine (hR BF _ hlo2 ((unhide SS).lt 1 rfl BF (List.mem_singleton.2 rfl)) ((unhide SS).hp 0 rfl) ((unhide SS).hold 1 rfl) (unhide SS).fr).mono ?_
      rintro _ Y3 ⟨h2, V, er, x, rs2, rfl, hfin, N3, T3⟩
      have hb2 : h2.b = h.b := T3.hb
      have HX : ∀ b ∈ x.bs, w.heap.size ≤ b := fun b hb => Nat.le_trans (unhide SS).fr.size (N3.lo b hb)
      replace SS := hide (Sy.ftO (unhide SS) T3 (frC_pos ..) N3)
      have HFN := hide hfin
      clear T3 N3 hfin hlo hlo2 HP_
      rw [vagg]
      go_wp2_with (first | go_skip | ((with_reducible show wpList _ _ _ _ _ _); first | (refine zS (V.cs) 4 24 (by rfl) rfl rfl rfl rfl (oneV _) szV SS rfl ?_; clear SS; intro Xy SS; simp only [Act.put, n1, n2, n3])))
      refine bodyPost_ret (res_ct rwV szV rfl rfl rfl ((unhide SS).hold 4 rfl) rfl) rfl ?_
      exact ⟨h2, V, er, x, rfl, unhide HFN, New.of (unhide SS) 6 rfl (by decide) (not_olds H HX), HP.To.end H (unhide SS) hb2⟩
set_option maxHeartbeats 2000000 in
set_option maxRecDepth 100000 in
theorem fncall_h (h : HP) (j : Nat) (th : VV) (A : Option Addr) (n c2 : Nat) (Fin : HP → VV → Value → Ob → Prop) (w : World) (H : h.Is w) (hC : ∀ X, h.To h w X → Calls Tryz.prog 164 #[.agg #[], .pointer (some ⟨h.b, 0, none⟩), .int .i64 ((j : Int) + 1), th.agg, (.slice A n c2), undV.agg] X (EndP h Fin X)) : Calls Tryz.prog 163 #[.agg #[], .pointer (some ⟨h.b, 0, none⟩), .int .i64 ((j : Int) + 1), th.agg, (.slice A n c2)] w (EndP h Fin w) := by
  have SS := hide H.start
  have HC := hide hC
  simp only [vagg] at *
  clear hC
  go_enter Tryz.func163, Tryz.ntmps163
  go_wp2_with (first | go_skip | ((with_reducible show wpList _ _ _ _ _ _); first | ((refine bx0 105 (by rfl) rfl rfl (unhide SS) ?_); intro X0 B0 S0; replace SS := hide S0; clear S0; simp only [Act.put, n1, n2, n3]) | (refine zB 24 (th.cs) (by rfl) rfl rfl rfl SS ?_; clear SS; intro Xa Ba SS; simp only [Act.put, n1, n2, n3]) | (refine zA 24 (zeroV.cs) (by rfl) rfl SS ?_; clear SS; intro Xb Bb SS; simp only [Act.put, n1, n2, n3])))
  have hS : Sy w _ h.blocks [hpO h, boxO Ba th.cs, boxO Bb zeroV.cs] := (unhide SS).drew
  clear SS
  refine wp_region_held_drew (P := Tryz.prog) (S := fun _ => True) (by kernel_rfl) (trivial) (fun hS0 => ?_)
  refine gq 0 (some 12) (.agg #[]) rfl rfl (fun X hX => ldF rfl rfl) (trivial) ?_
  simp only [Act.put, n1, n2, n3]
  refine gp 1 (some 13) (.pointer (some ⟨h.b, 0, none⟩)) rfl rfl (trivial) ?_
  simp only [Act.put, n1, n2, n3]
  refine gp 2 (some 14) (.int .i64 ((j : Int) + 1)) rfl rfl (trivial) ?_
  simp only [Act.put, n1, n2, n3]
  refine gp 4 (some 16) ((.slice A n c2)) rfl rfl (trivial) ?_
  simp only [Act.put, n1, n2, n3]
  refine gr (rs := [3, 5]) (gv 3 (some 15) rfl rfl (ex_loadN (vs := th.cs) 24 5 rwV szV rfl rfl (hS.hold 1 rfl) rfl rfl) (trivial) ?_ (gc 5 (some 17) rfl rfl (und_v _) ?_ gn))
  · simp only [Act.put, n1, n2, n3]
    refine gr (rs := [5]) (gc 5 (some 17) rfl rfl (und_v _) ?_ gn)
    rintro e Yt2 ⟨rfl, hYt2⟩
    have hqt2 := Sy.on hS hYt2
    refine ⟨_, rfl, trivial, ?_⟩
    simp only [Act.put, n1, n2, n3]
    refine gr (rs := [6]) (gc 6 (some 18) rfl rfl (unhide HC _ (HP.To.end H hqt2 rfl)) ?_ gn)
    rintro e Yt3 ⟨h2, V, er, x, rfl, hfin, Nt3, Tt3⟩
    have HX : ∀ b ∈ x.bs, w.heap.size ≤ b := fun b hb => Nat.le_trans hqt2.fr.size (Nt3.lo b hb)
    have hb2 : h2.b = h.b := Tt3.hb
    have hqt3 := Sy.endO hqt2 Tt3 Nt3
    clear Tt3 Nt3
    refine ⟨_, rfl, trivial, ?_⟩
    refine gp 7 (some 19) (V.agg) rfl rfl (trivial) ?_
    simp only [Act.put, n1, n2, n3]
    refine gp 8 (some 20) (er) rfl rfl (trivial) ?_
    simp only [Act.put, n1, n2, n3]
    refine gr (rs := [9]) (gstS (vs := V.cs) (new := V.cs) 9 2 24 rfl rfl (by kernel_rfl) rfl rfl rfl rfl (oneV _) szV hqt3 rfl (by simp [cput, VV.cs, KK.cs, DD.cs, OB.cs, hcs, zeroD, zeroV]) (by simp [cput, VV.cs, KK.cs, DD.cs, OB.cs, hcs, zeroD, zeroV]) (fun _ hZ => trivial) ?_ gn)
    intro Yt4 hqt4
    refine gp 10 (some 11) (er) rfl rfl (trivial) ?_
    simp only [Act.put, n1, n2, n3]
    refine wpAnyH_done (by kernel_rfl) ?_ _
    try simp only [Act.put, n1, n2, n3]
    have SS := hide hqt4
    have HFN := hide hfin
    clear hfin
    go_wp2
    refine bodyPost_ret (res_ct rwV szV rfl rfl rfl ((unhide SS).hold 2 rfl) rfl) rfl ?_
    exact ⟨h2, V, er, x, rfl, unhide HFN, New.of (unhide SS) 3 rfl (by decide) (not_olds H HX), HP.To.end H (unhide SS) hb2⟩
  · rintro e Yt5 ⟨rfl, hYt5⟩
    have hqt5 := Sy.on hS hYt5
    refine ⟨_, rfl, trivial, ?_⟩
    simp only [Act.put, n1, n2, n3]
    refine gr (rs := [3]) (gv 3 (some 15) rfl rfl (ex_loadN (vs := th.cs) 24 5 rwV szV rfl rfl (hqt5.hold 1 rfl) rfl rfl) (trivial) ?_ gn)
    simp only [Act.put, n1, n2, n3]
    refine gr (rs := [6]) (gc 6 (some 18) rfl rfl (unhide HC _ (HP.To.end H hqt5 rfl)) ?_ gn)
    rintro e Yt7 ⟨h2, V, er, x, rfl, hfin, Nt7, Tt7⟩
    have HX : ∀ b ∈ x.bs, w.heap.size ≤ b := fun b hb => Nat.le_trans hqt5.fr.size (Nt7.lo b hb)
    have hb2 : h2.b = h.b := Tt7.hb
    have hqt7 := Sy.endO hqt5 Tt7 Nt7
    clear Tt7 Nt7
    refine ⟨_, rfl, trivial, ?_⟩
    refine gp 7 (some 19) (V.agg) rfl rfl (trivial) ?_
    simp only [Act.put, n1, n2, n3]
    refine gp 8 (some 20) (er) rfl rfl (trivial) ?_
    simp only [Act.put, n1, n2, n3]
    refine gr (rs := [9]) (gstS (vs := V.cs) (new := V.cs) 9 2 24 rfl rfl (by kernel_rfl) rfl rfl rfl rfl (oneV _) szV hqt7 rfl (by simp [cput, VV.cs, KK.cs, DD.cs, OB.cs, hcs, zeroD, zeroV]) (by simp [cput, VV.cs, KK.cs, DD.cs, OB.cs, hcs, zeroD, zeroV]) (fun _ hZ => trivial) ?_ gn)
    intro Yt8 hqt8
    refine gp 10 (some 11) (er) rfl rfl (trivial) ?_
    simp only [Act.put, n1, n2, n3]
    refine wpAnyH_done (by kernel_rfl) ?_ _
    try simp only [Act.put, n1, n2, n3]
    have SS := hide hqt8
    have HFN := hide hfin
    clear hfin
    go_wp2
    refine bodyPost_ret (res_ct rwV szV rfl rfl rfl ((unhide SS).hold 2 rfl) rfl) rfl ?_
    exact ⟨h2, V, er, x, rfl, unhide HFN, New.of (unhide SS) 3 rfl (by decide) (not_olds H HX), HP.To.end H (unhide SS) hb2⟩
