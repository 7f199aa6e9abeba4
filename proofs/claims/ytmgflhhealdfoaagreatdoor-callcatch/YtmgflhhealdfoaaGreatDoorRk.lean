import Derived.Test.YtmgflhhealdfoaaGreatDoorRg
set_option linter.all false
namespace Go.Proofs.YtmgflhhealdfoaaGreatDoor
set_option maxHeartbeats 1000000
section
open Go Go.Proofs Go.Maps Go.RowKit FM
attribute [local go_sem] mm_GetOwnProperty mm_DefineOwnProperty mm_Get ta_caller ta_builder
def tabO (T : TT) : Ob := ⟨T.blocks, T.Is⟩
theorem tabO_ok (T : TT) : (tabO T).Ok := ⟨fun h k => TT.Is.block k h, fun h b hb => TT.Is.lt h b hb⟩
theorem ex_app {o : Oper} {a : Act} {w : World} {t e : TypeId} {size bytes n m c B base : Nat} {z v : Value} {xs news : List Value} {s x : Operand} (ho : o.op = .call { callee := .builtin .append, args := #[s, x], argTypes := #[t, t] }) (hs : a.eval s = v) (hx : a.eval x = .slice (some ⟨B, 0, none⟩) m c)
    (ht : Tryz.prog.underlying t = some (.slice e)) (hi : (Tryz.prog.info? e).map (fun i => (i.zero, i.size, i.bytes)) = some (some z, size, bytes)) (hz : z.cells.size = size) (hsz : 0 < size) (hown : w.ownsRow base e size v n xs) (hB : Holds w B news) (hl : news.length = m * size) (h1 : ∀ u ∈ news, u.oneCell' = true)
    (hn : n + m ≤ 4000000) (hby : bytes ≤ 10000) (hbase : base ≤ w.heap.size) : ∃ A c' w', (execOp a.eval o).run Tryz.prog w = .ok (.value (.slice A (n + m) c')) w' ∧ w'.ownsRow base e size (.slice A (n + m) c') (n + m) (xs ++ news) ∧ w.grownBy w' v.ownBlock ∧ Fresh w v (.slice A (n + m) c') := by
  obtain ⟨i0, hi, hz0, hz1, hz2⟩ := info_parts hi
  obtain ⟨v', w', hrun, h2, h3, h4⟩ := append_fresh w base t o.type e i0 _ size bytes ht hi hz0 hz1 hz2 hz hsz v n xs hown ⟨B, 0, none⟩ m c news hl (fun j u hj => by
    rw [Addr.add_mid]
    exact hB.2 j u hj) h1 (by unfold maxLen; omega) (Nat.le_trans (Nat.mul_le_mul hn hby) (by decide)) hbase
  obtain ⟨A', c', rfl⟩ := own_form h2
  refine ⟨A', c', w', ?_, h2, h3, h4⟩
  simp [execOp, ho, resolve, invoke, builtin, hs, hx, hrun, Result.andThen]
theorem gapR {md : Region.Mode} {ops : Array Oper} {Q : Exit → Act → World → Prop} {S : World → Prop} {w : World} {fuel : Nat} {listed : Array Bool} {a : Act} {o : Oper} {t e : TypeId} {size bytes n m c B base : Nat} {z v : Value} {xs news : List Value} {s x : Operand} {rs : List Nat} (i : Nat) (dst : Option Tmp) (hi' : ops[i]? = some o) (hd : o.dst = dst) (hw : Region.wanted o (yielded ops a.tmps) = true) (ho : o.op = .call { callee := .builtin .append, args := #[s, x], argTypes := #[t, t] }) (hs : a.eval s = v) (hx : a.eval x = .slice (some ⟨B, 0, none⟩) m c)
    (ht : Tryz.prog.underlying t = some (.slice e)) (hi : (Tryz.prog.info? e).map (fun i => (i.zero, i.size, i.bytes)) = some (some z, size, bytes)) (hz : z.cells.size = size) (hsz : 0 < size) (hown : w.ownsRow base e size v n xs) (hB : Holds w B news) (hl : news.length = m * size) (h1 : ∀ u ∈ news, u.oneCell' = true)
    (hn : n + m ≤ 4000000) (hby : bytes ≤ 10000) (hbase : base ≤ w.heap.size) (hS : ∀ X, S X) (h : ∀ A c' w', w'.ownsRow base e size (.slice A (n + m) c') (n + m) (xs ++ news) → w.grownBy w' v.ownBlock → Fresh w v (.slice A (n + m) c') → wpAnyH Tryz.prog md ops Q S fuel (listed.setIfInBounds i true) (a.put dst (.slice A (n + m) c')) w') (hrs : AllReadyH Tryz.prog md ops Q S fuel listed a w rs) : AllReadyH Tryz.prog md ops Q S fuel listed a w (i :: rs) := by
  obtain ⟨A, c', w', hrun, h2, h3, h4⟩ := ex_app ho hs hx ht hi hz hsz hown hB hl h1 hn hby hbase
  exact gval i dst hi' hd hw hrun (hS _) (h A c' w' h2 h3 h4) hrs
theorem Sy.open {w X : World} {E : List Nat} {M : List Ob} {h : HP} (S : Sy w X E (hpO h :: M)) : Sy w X E (h.things ++ M) := by
  have H : h.Is X := S.get 0 rfl
  have hd := S.dis
  rw [List.pairwise_cons] at hd
  refine ⟨S.fr, fun o ho => ?_, fun o ho => ?_, fun o ho b hb => ?_, ?_⟩
  · rcases List.mem_append.1 ho with h1 | h1
    · exact things_ok h o h1
    · exact S.ok o (List.mem_cons_of_mem _ h1)
  · rcases List.mem_append.1 ho with h1 | h1
    · exact H.ho o h1
    · exact S.ho o (List.mem_cons_of_mem _ h1)
  · rcases List.mem_append.1 ho with h1 | h1
    · exact S.lo _ (List.mem_cons_self ..) b (HP.mem_blocks h1 hb)
    · exact S.lo o (List.mem_cons_of_mem _ h1) b hb
  · rw [List.pairwise_append]
    exact ⟨H.dis, hd.2, fun a ha b hb x hx hxb => hd.1 b hb x (HP.mem_blocks ha hx) hxb⟩
def HP.more (h : HP) (gv : Value) (q : OB) : HP := { h with gv := gv, l := h.l ++ [q] }
theorem apart_of {L : List Ob} (h : L.Pairwise (fun a b => ∀ x ∈ a.bs, x ∉ b.bs)) {i j : Nat} {a b : Ob} (hi : L[i]? = some a) (hj : L[j]? = some b) (hne : i ≠ j) : ∀ x ∈ a.bs, x ∉ b.bs := by
  obtain ⟨hil, hi'⟩ := List.getElem?_eq_some_iff.1 hi
  obtain ⟨hjl, hj'⟩ := List.getElem?_eq_some_iff.1 hj
  intro x hx hxb
  rcases Nat.lt_or_gt_of_ne hne with h1 | h1
  · have := List.pairwise_iff_getElem.1 h i j hil hjl h1
    rw [hi', hj'] at this
    exact this x hx hxb
  · have := List.pairwise_iff_getElem.1 h j i hjl hil h1
    rw [hi', hj'] at this
    exact this x hxb hx
/-- Two things side by side, as one. -/
theorem Sy.join {w X : World} {E : List Nat} {L M : List Ob} {a b c : Ob} (S : Sy w X E (L ++ a :: b :: M)) (hok : c.Ok) (hP : c.P X) (hc : ∀ x, x ∈ c.bs → x ∈ a.bs ∨ x ∈ b.bs) : Sy w X E (L ++ [c]) := by
  have hd := S.dis
  rw [List.pairwise_append] at hd
  refine ⟨S.fr, fun o ho => ?_, fun o ho => ?_, fun o ho x hx => ?_, ?_⟩
  · rcases List.mem_append.1 ho with h | h
    · exact S.ok o (List.mem_append_left _ h)
    · rw [List.mem_singleton.1 h]; exact hok
  · rcases List.mem_append.1 ho with h | h
    · exact S.ho o (List.mem_append_left _ h)
    · rw [List.mem_singleton.1 h]; exact hP
  · rcases List.mem_append.1 ho with h | h
    · exact S.lo o (List.mem_append_left _ h) x hx
    · rw [List.mem_singleton.1 h] at hx
      rcases hc x hx with h1 | h1
      · exact S.lo a (List.mem_append_right _ (List.mem_cons_self ..)) x h1
      · exact S.lo b (List.mem_append_right _ (List.mem_cons_of_mem _ (List.mem_cons_self ..))) x h1
  · rw [List.pairwise_append]
    refine ⟨hd.1, by simp, fun o ho q hq x hx hxq => ?_⟩
    rw [List.mem_singleton.1 hq] at hxq
    rcases hc x hxq with h1 | h1
    · exact hd.2.2 o ho a (List.mem_cons_self ..) x hx h1
    · exact hd.2.2 o ho b (List.mem_cons_of_mem _ (List.mem_cons_self ..)) x hx h1
theorem Sy.drop1 {w X : World} {E : List Nat} {L M : List Ob} {a : Ob} (S : Sy w X E (L ++ a :: M)) : Sy w X E (L ++ M) := by
  have hd := S.dis
  have hm : ∀ o ∈ L ++ M, o ∈ L ++ a :: M := fun o ho => by
    rcases List.mem_append.1 ho with h | h
    · exact List.mem_append_left _ h
    · exact List.mem_append_right _ (List.mem_cons_of_mem _ h)
  refine ⟨S.fr, fun o ho => S.ok o (hm o ho), fun o ho => S.ho o (hm o ho), fun o ho => S.lo o (hm o ho), ?_⟩
  rw [List.pairwise_append] at hd ⊢
  rw [List.pairwise_cons] at hd
  exact ⟨hd.1, hd.2.1.2, fun a' ha b hb => hd.2.2 a' ha b (List.mem_cons_of_mem _ hb)⟩
theorem HP.add_to {h : HP} {w X X' : World} {Bv : Nat} {c : List Value} {q : OB} {A : Option Addr} {c' : Nat} {M : List Ob} (H : h.Is w) (S : Sy w X h.blocks (hpO h :: boxO Bv c :: tabO q.T :: boxO q.b q.cs :: M)) (hO : X'.ownsRow 0 87 1 (.slice A (h.l.length + 1) c') (h.l.length + 1) (h.l.map OB.ptr ++ [q.ptr])) (hg : X.grownBy X' h.gv.ownBlock) (hF : Fresh X h.gv (.slice A (h.l.length + 1) c')) : h.To (h.more (.slice A (h.l.length + 1) c') q) w (X'.setCells h.b 0 [.slice A (h.l.length + 1) c']) := by
  have hne : q.b ∉ q.T.blocks := fun hm => apart_of S.dis (i := 3) (j := 2) rfl rfl (by decide) q.b (List.mem_singleton.2 rfl) hm
  have S1 := S.open
  have S2 := S1.row 1 (base := 0) (e := 87) (s := 1) (n := h.l.length) (v := h.gv) (ys := h.l.map OB.ptr) rfl hO hg hF
  have S3 := S2.put 0 (b := h.b) (cs := hcs h) rfl 0 [.slice A (h.l.length + 1) c'] (by simp [hcs])
  have ec : cput (hcs h) 0 [.slice A (h.l.length + 1) c'] = hcs (h.more (.slice A (h.l.length + 1) c') q) := by simp [cput, hcs, HP.more]
  rw [ec] at S3
  have S4 : Sy w (X'.setCells h.b 0 [.slice A (h.l.length + 1) c']) h.blocks ((boxO h.b (hcs (h.more (.slice A (h.l.length + 1) c') q)) :: rowO 0 87 1 (.slice A (h.l.length + 1) c') (h.l.length + 1) (h.l.map OB.ptr ++ [q.ptr]) :: h.e :: h.l.map obO) ++ (boxO Bv c :: tabO q.T :: boxO q.b q.cs :: M)) := S3
  have S5 := S4.drop1
  have hT : q.T.Is (X'.setCells h.b 0 [.slice A (h.l.length + 1) c']) := S5.ho (tabO q.T) (List.mem_append_right _ (List.mem_cons_self ..))
  have hB : Holds (X'.setCells h.b 0 [.slice A (h.l.length + 1) c']) q.b q.cs := (S5.ho (boxO q.b q.cs) (List.mem_append_right _ (List.mem_cons_of_mem _ (List.mem_cons_self ..)))).1
  have S6 := S5.join (c := obO q) (obO_ok q) ⟨hB, hT, hne⟩ (fun x hx => by
    rcases List.mem_cons.1 hx with rfl | hx
    · exact .inr (List.mem_singleton.2 rfl)
    · exact .inl hx)
  refine HP.To.of H ?_ rfl
  have e : (h.more (.slice A (h.l.length + 1) c') q).things = (boxO h.b (hcs (h.more (.slice A (h.l.length + 1) c') q)) :: rowO 0 87 1 (.slice A (h.l.length + 1) c') (h.l.length + 1) (h.l.map OB.ptr ++ [q.ptr]) :: h.e :: h.l.map obO) ++ [obO q] := by
    unfold HP.things HP.more
    simp
  rw [e]
  exact S6
def checkE (n : Nat) (v : VV) : Int := if v.good then knownE n [v] else 5
section
variable {ops : Array Oper} {rest : List Oper} {Q : Exit → Act → World → Prop} {w w0 : World} {a : Act} {o : Oper} {E : List Nat} {L : List Ob}
theorem bsV1 {v : VV} {x : Operand} (hw : Region.wanted o (yielded ops a.tmps) = true) (ho : o.op = .buildSlice 63 1 #[(0, x)]) (hx : a.eval x = .agg v.cs.toArray) (hL : Sy w0 w E L)
    (h : ∀ X B, Sy w0 X E (L ++ [boxO B ([v].flatMap VV.cs)]) → wpList Tryz.prog ops Q rest (a.put o.dst (.slice (some ⟨B, 0, none⟩) 1 1)) X) : wpList Tryz.prog ops Q (o :: rest) a w := by
  refine BigFrame.wpList_want hw fun K hK => ?_
  have hP := hK _ _ (h _ _ (hL.box ([v].flatMap VV.cs) 24 (Nat.succ_pos _)))
  unfold Oper.wp
  rw [ex_bsV1 ho hx]
  exact hP
end
set_option maxRecDepth 100000 in
theorem check_h (h : HP) (v : VV) (w : World) (H : h.Is w) (hT : Lib.Utf8Tabs 1 2 w) : Calls Tryz.prog 16 #[.pointer (some ⟨h.b, 0, none⟩), v.agg] w fun e w' => e = .returned (.int .i64 (checkE h.l.length v)) ∧ Below w.heap.size w w' := by
  unfold checkE
  obtain ⟨z, hz⟩ : ∃ z, v.good = z := ⟨_, rfl⟩
  rw [hz]
  cases z
  · have SS := hide (Sy.nil w [])
    rw [vagg]
    go_enter Tryz.func16, Tryz.ntmps16
    go_wp2_with (first | go_skip | ((with_reducible show wpList _ _ _ _ _ _); first | (refine zB 24 (v.cs) (by rfl) rfl rfl rfl SS ?_; clear SS; intro Xa Ba SS; simp only [Act.put, n1, n2, n3]) | (refine zL (v.cs) 24 5 0 rwV szV (by rfl) rfl rfl SS rfl rfl rfl ?_; simp only [Act.put, n1, n2, n3])))
    have HC := check_any v _ (tabs_below hT (unhide SS).fr.below)
    rw [vagg] at HC
    refine HC.mono ?_
    rintro e X5 ⟨rfl, hb5⟩
    replace SS := hide ((unhide SS).on hb5)
    clear hb5 HC
    rw [show errB v.good = 5 by rw [hz]; rfl]
    go_wp2
    go_ret
    exact ⟨rfl, (unhide SS).fr.below⟩
  · have SS := hide (Sy.nil w [])
    rw [vagg]
    go_enter Tryz.func16, Tryz.ntmps16
    go_wp2_with (first | go_skip | ((with_reducible show wpList _ _ _ _ _ _); first | (refine zB 24 (v.cs) (by rfl) rfl rfl rfl SS ?_; clear SS; intro Xa Ba SS; simp only [Act.put, n1, n2, n3]) | (refine zL (v.cs) 24 5 0 rwV szV (by rfl) rfl rfl SS rfl rfl rfl ?_; simp only [Act.put, n1, n2, n3])))
    have HC := check_any v _ (tabs_below hT (unhide SS).fr.below)
    rw [vagg] at HC
    refine HC.mono ?_
    rintro e X5 ⟨rfl, hb5⟩
    replace SS := hide ((unhide SS).on hb5)
    clear hb5 HC
    rw [show errB v.good = 0 by rw [hz]; rfl]
    go_wp2_with (first | go_skip | ((with_reducible show wpList _ _ _ _ _ _); first | (refine zL (v.cs) 24 5 0 rwV szV (by rfl) rfl rfl SS rfl rfl rfl ?_; simp only [Act.put, n1, n2, n3]) | ((refine bsV1 (v := v) (by rfl) rfl rfl (unhide SS) ?_); intro X6 B6 S6; replace SS := hide S6; clear S6; simp only [Act.put, n1, n2, n3])))
    refine (known_h h _ 1 [v] _ (H.on (unhide SS).fr.below) (reads_holds ((unhide SS).hold 1 rfl)) (by simp)).mono ?_
    rintro e X7 ⟨rfl, hb7⟩
    replace SS := hide ((unhide SS).on hb7)
    clear hb7
    go_wp2
    go_ret
    exact ⟨rfl, (unhide SS).fr.below⟩
def roomE (h : HP) : Int := if h.cap ≤ (h.l.length : Int) then 3 else 0
theorem ex_geq {o : Oper} {a : Act} {w : World} {x y : Operand} {n m : Int} (b : Bool) (ho : o.op = .binOp .geq 3 x y 3) (hx : a.eval x = .int .i64 n) (hc : a.eval y = .int .i64 m) (h : decide (m ≤ n) = b) : (execOp a.eval o).run Tryz.prog w = .ok (.value (.bool b)) w := by
  subst h
  unfold execOp
  simp only [ho, hx, hc]
  simp [go_sem, eqGuard]
set_option maxRecDepth 100000 in
theorem room_h (h : HP) (w : World) (H : h.Is w) : Calls Tryz.prog 52 #[.pointer (some ⟨h.b, 0, none⟩)] w fun e w' => e = .returned (.int .i64 (roomE h)) ∧ Below w.heap.size w w' := by
  unfold roomE
  by_cases hr : h.cap ≤ (h.l.length : Int)
  · rw [if_pos hr]
    have hc : decide (h.cap ≤ (h.l.length : Int)) = true := decide_eq_true hr
    have hS : Sy w w.drew [] [] := (Sy.nil w []).drew
    go_enter Tryz.func52, Tryz.ntmps52
    go_wp2_with fail
    refine wp_region_held_drew (P := Tryz.prog) (S := fun X => Sy w X [] _) (by kernel_rfl) (hS) (fun hS0 => ?_)
    refine gp 0 (some 3) (.pointer (some ⟨h.b, 0, none⟩)) rfl rfl (hS) ?_
    simp only [Act.put, n1, n2, n3]
    refine gp 2 (some 5) (.pointer (some ⟨h.b, 0, none⟩)) rfl rfl (hS) ?_
    simp only [Act.put, n1, n2, n3]
    refine gp 3 (some 6) (.pointer (some ⟨h.b, 0, none⟩)) rfl rfl (hS) ?_
    simp only [Act.put, n1, n2, n3]
    refine gp 4 (some 7) (.pointer (some ⟨h.b, 1, none⟩)) rfl rfl (hS) ?_
    simp only [Act.put, n1, n2, n3]
    refine gq 5 (some 8) (.int .i64 h.cap) rfl rfl (fun X hX => ex_load1 3 Tryz.isAgg3 rfl rfl ((H.on hX.fr.below).blk) rfl) (hS) ?_
    simp only [Act.put, n1, n2, n3]
    refine gr (rs := [1]) (gcW 1 (some 4) rfl rfl (hS) (len_h h _ (H.on hS.fr.below)) ?_ gn)
    refine gq 6 (some 9) (.bool true) rfl rfl (fun X hX => ex_geq true rfl rfl rfl hc) (hS) ?_
    simp only [Act.put, n1, n2, n3]
    refine wpAnyH_done (by kernel_rfl) ?_ _
    try simp only [Act.put, n1, n2, n3]
    have SS := hide hS
    go_wp2
    go_ret
    exact ⟨rfl, (unhide SS).fr.below⟩
  · rw [if_neg hr]
    have hc : decide (h.cap ≤ (h.l.length : Int)) = false := decide_eq_false hr
    have hS : Sy w w.drew [] [] := (Sy.nil w []).drew
    go_enter Tryz.func52, Tryz.ntmps52
    go_wp2_with fail
    refine wp_region_held_drew (P := Tryz.prog) (S := fun X => Sy w X [] _) (by kernel_rfl) (hS) (fun hS0 => ?_)
    refine gp 0 (some 3) (.pointer (some ⟨h.b, 0, none⟩)) rfl rfl (hS) ?_
    simp only [Act.put, n1, n2, n3]
    refine gp 2 (some 5) (.pointer (some ⟨h.b, 0, none⟩)) rfl rfl (hS) ?_
    simp only [Act.put, n1, n2, n3]
    refine gp 3 (some 6) (.pointer (some ⟨h.b, 0, none⟩)) rfl rfl (hS) ?_
    simp only [Act.put, n1, n2, n3]
    refine gp 4 (some 7) (.pointer (some ⟨h.b, 1, none⟩)) rfl rfl (hS) ?_
    simp only [Act.put, n1, n2, n3]
    refine gq 5 (some 8) (.int .i64 h.cap) rfl rfl (fun X hX => ex_load1 3 Tryz.isAgg3 rfl rfl ((H.on hX.fr.below).blk) rfl) (hS) ?_
    simp only [Act.put, n1, n2, n3]
    refine gr (rs := [1]) (gcW 1 (some 4) rfl rfl (hS) (len_h h _ (H.on hS.fr.below)) ?_ gn)
    refine gq 6 (some 9) (.bool false) rfl rfl (fun X hX => ex_geq false rfl rfl rfl hc) (hS) ?_
    simp only [Act.put, n1, n2, n3]
    refine wpAnyH_done (by kernel_rfl) ?_ _
    try simp only [Act.put, n1, n2, n3]
    have SS := hide hS
    go_wp2
    go_ret
    exact ⟨rfl, (unhide SS).fr.below⟩
theorem ex_bob {o : Oper} {a : Act} {w : World} {x0 x1 x2 x3 x4 x5 : Operand} (q : OB) (ho : o.op = .build 100 #[(0, x0), (1, x1), (2, x2), (3, x3), (4, x4), (5, x5)]) (hx1 : q.x = true) (h0 : a.eval x0 = .int .i64 q.c) (h1 : a.eval x1 = .agg q.p.cs.toArray) (h2 : a.eval x2 = .bool true) (h3 : a.eval x3 = .pointer (some ⟨q.T.t, 0, none⟩)) (h4 : a.eval x4 = .iface (mt q.m) (.agg #[])) (h5 : a.eval x5 = ow1 q.ow) : (execOp a.eval o).run Tryz.prog w = .ok (.value (.agg q.cs.toArray)) w := by
  have e : (Instr.build 100 #[(0, .int .i64 q.c), (1, .agg q.p.cs.toArray), (2, .bool q.x), (3, .pointer (some ⟨q.T.t, 0, none⟩)), (4, .iface (mt q.m) (.agg #[])), (5, ow1 q.ow)]).run Tryz.prog w = .ok (.agg q.cs.toArray) w := by
    obtain ⟨b0, c0, p0, x00, T0, m0, ow0⟩ := q
    rcases ow0 with _ | ⟨t0, v0⟩ <;> kernel_rfl
  rw [hx1] at e
  unfold execOp
  simp only [ho, List.map_toArray, List.map_cons, List.map_nil, h0, h1, h2, h3, h4, h5]
  simp [e]
theorem ex_bsO {o : Oper} {a : Act} {w : World} {x0 : Operand} {b : Nat} (ho : o.op = .buildSlice 67 1 #[(0, x0)]) (h0 : a.eval x0 = .pointer (some ⟨b, 0, none⟩)) : (execOp a.eval o).run Tryz.prog w = .ok (.value (.slice (some ⟨w.heap.size, 0, none⟩) 1 1)) (w.alloc (Obj.cells [Value.pointer (some ⟨b, 0, none⟩)].toArray 87)) := by
  have e : (Instr.buildSlice 67 1 #[(0, .pointer (some ⟨b, 0, none⟩))]).run Tryz.prog w = .ok (.slice (some ⟨w.heap.size, 0, none⟩) 1 1) (w.alloc (Obj.cells [Value.pointer (some ⟨b, 0, none⟩)].toArray 87)) := by kernel_rfl
  unfold execOp
  simp only [ho, List.map_toArray, List.map_cons, List.map_nil, h0]
  simp [e]
theorem infOp : (Tryz.prog.info? 87).map (fun i => (i.zero, i.size, i.bytes)) = some (some (.pointer none), 1, 8) := by kernel_rfl
theorem szOs : (Tryz.prog.info? 67).map (·.size) = some 1 := by kernel_rfl
def newOb (b : Nat) (v : VV) (T : TT) (cl : Int) (mm : Nat) (ow : Option (Nat × Value)) : OB := ⟨b, cl, v, true, T, mm, ow⟩
theorem pr_nil {T : TT} (h : T.rows = []) : pr T = [] := by
  unfold pr TT.live
  rw [h]
  rfl
set_option maxHeartbeats 2000000 in
set_option maxRecDepth 100000 in
theorem add_h (h : HP) (v : VV) (cl : Int) (mm : Nat) (ow : Option (Nat × Value)) (w : World) (H : h.Is w) (hT : Tabs w) (hl : h.l.length ≤ 65536) : Calls Tryz.prog 21 #[.pointer (some ⟨h.b, 0, none⟩), .int .i64 cl, v.agg, .iface (mt mm) (.agg #[]), ow1 ow] w fun e w' => (e = .returned (.tuple #[.int .i64 0, ePair (orE [checkE h.l.length v, protoE v, roomE h])]) ∧ orE [checkE h.l.length v, protoE v, roomE h] ≠ 0 ∧ h.To h w w') ∨ (orE [checkE h.l.length v, protoE v, roomE h] = 0 ∧ ∃ (gv : Value) (q : OB), e = .returned (.tuple #[.int .i64 ((h.l.length : Int) + 1), .nilIface]) ∧ q.c = cl ∧ q.p = v ∧ q.x = true ∧ q.m = mm ∧ q.ow = ow ∧ pr q.T = [] ∧ q.T.last = 0 ∧ h.To (h.more gv q) w w') := by
  by_cases hc : orE [checkE h.l.length v, protoE v, roomE h] = 0
  · have SS := hide H.start
    rw [vagg]
    go_enter Tryz.func21, Tryz.ntmps21
    go_wp2_with (first | go_skip | ((with_reducible show wpList _ _ _ _ _ _); first | (refine zB 24 (v.cs) (by rfl) rfl rfl rfl SS ?_; clear SS; intro Xa Ba SS; simp only [Act.put, n1, n2, n3])))
    have hS1 : Sy w _ h.blocks [hpO h, boxO Ba v.cs] := (unhide SS).drew
    clear SS
    refine wp_region_held_drew (P := Tryz.prog) (S := fun X => Sy w X h.blocks _) (by kernel_rfl) (hS1) (fun hS0 => ?_)
    refine gp 0 (some 13) (.pointer (some ⟨h.b, 0, none⟩)) rfl rfl (hS1) ?_
    simp only [Act.put, n1, n2, n3]
    refine gq 1 (some 14) (.agg (v.cs).toArray) rfl rfl (fun X hX => ex_loadN (vs := v.cs) 24 5 rwV szV rfl rfl (hX.hold 1 rfl) rfl rfl) (hS1) ?_
    simp only [Act.put, n1, n2, n3]
    refine gq 3 (some 16) (.agg (v.cs).toArray) rfl rfl (fun X hX => ex_loadN (vs := v.cs) 24 5 rwV szV rfl rfl (hX.hold 1 rfl) rfl rfl) (hS1) ?_
    simp only [Act.put, n1, n2, n3]
    refine gp 5 (some 18) (.pointer (some ⟨h.b, 0, none⟩)) rfl rfl (hS1) ?_
    simp only [Act.put, n1, n2, n3]
    refine gr (rs := [2]) (gcB 2 (some 15) rfl rfl hS1 (check_h h v _ (hS1.hp 0 rfl) (hT.fr hS1.fr H.low).1) id ?_ gn)
    intro Yt1 hqt1
    simp only [Act.put, n1, n2, n3]
    refine gr (rs := [4]) (gcB 4 (some 17) rfl rfl hqt1 (protoKind_any v _) id ?_ gn)
    intro Yt2 hqt2
    simp only [Act.put, n1, n2, n3]
    refine gr (rs := [6]) (gcB 6 (some 19) rfl rfl hqt2 (room_h h _ (hqt2.hp 0 rfl)) id ?_ gn)
    intro Yt3 hqt3
    simp only [Act.put, n1, n2, n3]
    refine gr (rs := [7]) (gbsS 7 (some 20) rfl rfl (by kernel_rfl) (ex_bsE3 rfl rfl rfl rfl) (Nat.succ_pos _) hqt3 (fun _ hZ => Sy.left (L := [_, _]) (M := [_]) hZ) ?_ gn)
    intro Yt4 Bt4 hEt4 hqt4
    clear hEt4
    simp only [Act.put, n1, n2, n3]
    refine gr (rs := [8]) (gcW 8 (some 21) rfl rfl (Sy.left (L := [_, _]) (M := [_]) hqt4) (or_any Bt4 3 [checkE h.l.length v, protoE v, roomE h] _ (hqt4.hold 2 rfl) (by simp)) ?_ gn)
    refine gp 9 (some 12) (.int .i64 (orE [checkE h.l.length v, protoE v, roomE h])) rfl rfl (Sy.left (L := [_, _]) (M := [_]) hqt4) ?_
    simp only [Act.put, n1, n2, n3]
    refine wpAnyH_done (by kernel_rfl) ?_ _
    try simp only [Act.put, n1, n2, n3]
    have SS := hide (Sy.left (L := [hpO h, boxO Ba v.cs]) (M := [boxO Bt4 (ints [checkE h.l.length v, protoE v, roomE h])]) hqt4)
    go_wp2_with (first | go_skip | ((with_reducible show wpList _ _ _ _ _ _); first | (refine rd (by rfl) (ex_neE0 rfl rfl rfl hc) ?_; simp only [Act.put, n1, n2, n3])))
    have hS4 : Sy w _ h.blocks [hpO h, boxO Ba v.cs] := (unhide SS).drew
    clear SS
    refine wp_region_held_drew (P := Tryz.prog) (S := fun _ => True) (by kernel_rfl) (trivial) (fun hS0 => ?_)
    refine gp 0 (some 26) (.pointer (some ⟨h.b, 0, none⟩)) rfl rfl (trivial) ?_
    simp only [Act.put, n1, n2, n3]
    refine gp 1 (some 27) (.pointer (some ⟨h.b, 0, none⟩)) rfl rfl (trivial) ?_
    simp only [Act.put, n1, n2, n3]
    refine gp 2 (some 28) (.pointer (some ⟨h.b, 0, none⟩)) rfl rfl (trivial) ?_
    simp only [Act.put, n1, n2, n3]
    refine gp 3 (some 29) (.pointer (some ⟨h.b, 0, none⟩)) rfl rfl (trivial) ?_
    simp only [Act.put, n1, n2, n3]
    refine gp 5 (some 31) (.int .i64 cl) rfl rfl (trivial) ?_
    simp only [Act.put, n1, n2, n3]
    refine gp 8 (some 34) (.iface (mt mm) (.agg #[])) rfl rfl (trivial) ?_
    simp only [Act.put, n1, n2, n3]
    refine gp 9 (some 35) (ow1 ow) rfl rfl (trivial) ?_
    simp only [Act.put, n1, n2, n3]
    refine gr (rs := [4, 6, 7]) (gv 4 (some 30) rfl rfl (ex_load1 67 Tryz.isAgg67 rfl rfl ((hS4.hp 0 rfl).blk) rfl) (trivial) ?_ (gv 6 (some 32) rfl rfl (ex_loadN (vs := v.cs) 24 5 rwV szV rfl rfl (hS4.hold 1 rfl) rfl rfl) (trivial) ?_ (gc 7 (some 33) rfl rfl (new10 _) ?_ gn)))
    · simp only [Act.put, n1, n2, n3]
      refine gr (rs := [6, 7]) (gv 6 (some 32) rfl rfl (ex_loadN (vs := v.cs) 24 5 rwV szV rfl rfl (hS4.hold 1 rfl) rfl rfl) (trivial) ?_ (gc 7 (some 33) rfl rfl (new10 _) ?_ gn))
      · simp only [Act.put, n1, n2, n3]
        refine gr (rs := [7]) (gc 7 (some 33) rfl rfl (new10 _) ?_ gn)
        rintro e Yu3 ⟨T, rfl, hTu3, hr0, hl0, hlou3, hbTu3⟩
        have hqu3 := Sy.add hS4 (tabO_ok T) hTu3 hbTu3 (fun b hb => hlou3 b hb)
        refine ⟨_, rfl, trivial, ?_⟩
        refine gq 10 (some 36) (.agg (newOb 0 v T cl mm ow).cs.toArray) rfl rfl (fun X hX => ex_bob (newOb 0 v T cl mm ow) rfl rfl rfl rfl rfl rfl rfl rfl) (trivial) ?_
        simp only [Act.put, n1, n2, n3]
        refine gr (rs := [11]) (gbxS 11 (some 37) 100 ((newOb 0 v T cl mm ow).cs) rfl rfl (by kernel_rfl) rfl rfl rfl (Nat.succ_pos _) hqu3 (fun _ hZ => trivial) ?_ gn)
        intro Yu4 Bu4 hEu4 hqu4
        clear hEu4
        simp only [Act.put, n1, n2, n3]
        refine gr (rs := [12]) (gbsS 12 (some 38) rfl rfl (by kernel_rfl) (ex_bsO rfl rfl) (Nat.succ_pos _) hqu4 (fun _ hZ => trivial) ?_ gn)
        intro Yu5 Bu5 hEu5 hqu5
        clear hEu5
        simp only [Act.put, n1, n2, n3]
        refine gr (rs := [13]) (gapR (e := 87) (size := 1) (bytes := 8) (z := .pointer none) (n := h.l.length) (base := 0) (xs := h.l.map OB.ptr) (news := [Value.pointer (some ⟨Bu4, 0, none⟩)]) 13 (some 39) rfl rfl (by kernel_rfl) rfl rfl rfl Tryz.underlying67 infOp rfl (by decide) (hqu5.hp 0 rfl).own (hqu5.hold 4 rfl) rfl (by simp [Value.oneCell']) (by omega) (by decide) (Nat.zero_le _) (fun _ => trivial) ?_ gn)
        intro A c2 X8 hO8 hg8 hF8
        simp only [Act.put, n1, n2, n3]
        refine gp 14 (some 40) (.pointer (some ⟨h.b, 0, none⟩)) rfl rfl (trivial) ?_
        simp only [Act.put, n1, n2, n3]
        refine gp 15 (some 41) (.pointer (some ⟨h.b, 0, none⟩)) rfl rfl (trivial) ?_
        simp only [Act.put, n1, n2, n3]
        have T8 := HP.add_to (q := newOb Bu4 v T cl mm ow) H hqu5 hO8 (show _ from hg8) hF8
        have hb8 : Holds X8 h.b (hcs h) := (hqu5.hp 0 rfl).blk.block (hg8.block _ ((hqu5.hp 0 rfl).blk.lt (by simp [hcs])) (fun e8 => by
          have := List.pairwise_cons.1 (hqu5.hp 0 rfl).dis
          exact this.1 _ (List.mem_cons_self ..) h.b (List.mem_singleton.2 rfl) (by have e9 : some h.b = h.gv.ownBlock := e8; show h.b ∈ h.gv.ownBlock.toList; rw [← e9]; simp)))
        refine gr (rs := [16]) (gskp 16 none rfl rfl (by kernel_rfl) (ex_store (vs := [.slice A (h.l.length + 1) c2]) rfl rfl rfl rfl (by simp [Value.oneCell']) szOs hb8 (by simp [hcs])) trivial ?_ gn)
        simp only [Act.put, n1, n2, n3]
        refine wpAnyH_done (by kernel_rfl) ?_ _
        try simp only [Act.put, n1, n2, n3]
        have HT8 := hide T8
        clear T8
        have h9 := len_h (h.more (.slice A (h.l.length + 1) c2) (newOb Bu4 v T cl mm ow)) _ (unhide HT8).is
        go_wp2_with fail
        refine h9.mono ?_
        rintro _ _ ⟨rfl, rfl⟩
        go_wp2
        go_ret2
        refine .inr ⟨hc, _, newOb Bu4 v T cl mm ow, ?_, rfl, rfl, rfl, rfl, rfl, pr_nil hr0, hl0, (unhide HT8)⟩
        show Ending.returned _ = _
        have e9 : ((h.more (.slice A (h.l.length + 1) c2) (newOb Bu4 v T cl mm ow)).l.length : Int) = (h.l.length : Int) + 1 := by unfold HP.more; simp
        rw [← e9]
        rfl
      · rintro e Yu8 ⟨T, rfl, hTu8, hr0, hl0, hlou8, hbTu8⟩
        have hqu8 := Sy.add hS4 (tabO_ok T) hTu8 hbTu8 (fun b hb => hlou8 b hb)
        refine ⟨_, rfl, trivial, ?_⟩
        simp only [Act.put, n1, n2, n3]
        refine gr (rs := [6]) (gv 6 (some 32) rfl rfl (ex_loadN (vs := v.cs) 24 5 rwV szV rfl rfl (hqu8.hold 1 rfl) rfl rfl) (trivial) ?_ gn)
        refine gq 10 (some 36) (.agg (newOb 0 v T cl mm ow).cs.toArray) rfl rfl (fun X hX => ex_bob (newOb 0 v T cl mm ow) rfl rfl rfl rfl rfl rfl rfl rfl) (trivial) ?_
        simp only [Act.put, n1, n2, n3]
        refine gr (rs := [11]) (gbxS 11 (some 37) 100 ((newOb 0 v T cl mm ow).cs) rfl rfl (by kernel_rfl) rfl rfl rfl (Nat.succ_pos _) hqu8 (fun _ hZ => trivial) ?_ gn)
        intro Yu10 Bu10 hEu10 hqu10
        clear hEu10
        simp only [Act.put, n1, n2, n3]
        refine gr (rs := [12]) (gbsS 12 (some 38) rfl rfl (by kernel_rfl) (ex_bsO rfl rfl) (Nat.succ_pos _) hqu10 (fun _ hZ => trivial) ?_ gn)
        intro Yu11 Bu11 hEu11 hqu11
        clear hEu11
        simp only [Act.put, n1, n2, n3]
        refine gr (rs := [13]) (gapR (e := 87) (size := 1) (bytes := 8) (z := .pointer none) (n := h.l.length) (base := 0) (xs := h.l.map OB.ptr) (news := [Value.pointer (some ⟨Bu10, 0, none⟩)]) 13 (some 39) rfl rfl (by kernel_rfl) rfl rfl rfl Tryz.underlying67 infOp rfl (by decide) (hqu11.hp 0 rfl).own (hqu11.hold 4 rfl) rfl (by simp [Value.oneCell']) (by omega) (by decide) (Nat.zero_le _) (fun _ => trivial) ?_ gn)
        intro A c2 X8 hO8 hg8 hF8
        simp only [Act.put, n1, n2, n3]
        refine gp 14 (some 40) (.pointer (some ⟨h.b, 0, none⟩)) rfl rfl (trivial) ?_
        simp only [Act.put, n1, n2, n3]
        refine gp 15 (some 41) (.pointer (some ⟨h.b, 0, none⟩)) rfl rfl (trivial) ?_
        simp only [Act.put, n1, n2, n3]
        have T8 := HP.add_to (q := newOb Bu10 v T cl mm ow) H hqu11 hO8 (show _ from hg8) hF8
        have hb8 : Holds X8 h.b (hcs h) := (hqu11.hp 0 rfl).blk.block (hg8.block _ ((hqu11.hp 0 rfl).blk.lt (by simp [hcs])) (fun e8 => by
          have := List.pairwise_cons.1 (hqu11.hp 0 rfl).dis
          exact this.1 _ (List.mem_cons_self ..) h.b (List.mem_singleton.2 rfl) (by have e9 : some h.b = h.gv.ownBlock := e8; show h.b ∈ h.gv.ownBlock.toList; rw [← e9]; simp)))
        refine gr (rs := [16]) (gskp 16 none rfl rfl (by kernel_rfl) (ex_store (vs := [.slice A (h.l.length + 1) c2]) rfl rfl rfl rfl (by simp [Value.oneCell']) szOs hb8 (by simp [hcs])) trivial ?_ gn)
        simp only [Act.put, n1, n2, n3]
        refine wpAnyH_done (by kernel_rfl) ?_ _
        try simp only [Act.put, n1, n2, n3]
        have HT8 := hide T8
        clear T8
        have h9 := len_h (h.more (.slice A (h.l.length + 1) c2) (newOb Bu10 v T cl mm ow)) _ (unhide HT8).is
        go_wp2_with fail
        refine h9.mono ?_
        rintro _ _ ⟨rfl, rfl⟩
        go_wp2
        go_ret2
        refine .inr ⟨hc, _, newOb Bu10 v T cl mm ow, ?_, rfl, rfl, rfl, rfl, rfl, pr_nil hr0, hl0, (unhide HT8)⟩
        show Ending.returned _ = _
        have e9 : ((h.more (.slice A (h.l.length + 1) c2) (newOb Bu10 v T cl mm ow)).l.length : Int) = (h.l.length : Int) + 1 := by unfold HP.more; simp
        rw [← e9]
        rfl
    · simp only [Act.put, n1, n2, n3]
      refine gr (rs := [4, 7]) (gv 4 (some 30) rfl rfl (ex_load1 67 Tryz.isAgg67 rfl rfl ((hS4.hp 0 rfl).blk) rfl) (trivial) ?_ (gc 7 (some 33) rfl rfl (new10 _) ?_ gn))
      · simp only [Act.put, n1, n2, n3]
        refine gr (rs := [7]) (gc 7 (some 33) rfl rfl (new10 _) ?_ gn)
        rintro e Yu16 ⟨T, rfl, hTu16, hr0, hl0, hlou16, hbTu16⟩
        have hqu16 := Sy.add hS4 (tabO_ok T) hTu16 hbTu16 (fun b hb => hlou16 b hb)
        refine ⟨_, rfl, trivial, ?_⟩
        refine gq 10 (some 36) (.agg (newOb 0 v T cl mm ow).cs.toArray) rfl rfl (fun X hX => ex_bob (newOb 0 v T cl mm ow) rfl rfl rfl rfl rfl rfl rfl rfl) (trivial) ?_
        simp only [Act.put, n1, n2, n3]
        refine gr (rs := [11]) (gbxS 11 (some 37) 100 ((newOb 0 v T cl mm ow).cs) rfl rfl (by kernel_rfl) rfl rfl rfl (Nat.succ_pos _) hqu16 (fun _ hZ => trivial) ?_ gn)
        intro Yu17 Bu17 hEu17 hqu17
        clear hEu17
        simp only [Act.put, n1, n2, n3]
        refine gr (rs := [12]) (gbsS 12 (some 38) rfl rfl (by kernel_rfl) (ex_bsO rfl rfl) (Nat.succ_pos _) hqu17 (fun _ hZ => trivial) ?_ gn)
        intro Yu18 Bu18 hEu18 hqu18
        clear hEu18
        simp only [Act.put, n1, n2, n3]
        refine gr (rs := [13]) (gapR (e := 87) (size := 1) (bytes := 8) (z := .pointer none) (n := h.l.length) (base := 0) (xs := h.l.map OB.ptr) (news := [Value.pointer (some ⟨Bu17, 0, none⟩)]) 13 (some 39) rfl rfl (by kernel_rfl) rfl rfl rfl Tryz.underlying67 infOp rfl (by decide) (hqu18.hp 0 rfl).own (hqu18.hold 4 rfl) rfl (by simp [Value.oneCell']) (by omega) (by decide) (Nat.zero_le _) (fun _ => trivial) ?_ gn)
        intro A c2 X8 hO8 hg8 hF8
        simp only [Act.put, n1, n2, n3]
        refine gp 14 (some 40) (.pointer (some ⟨h.b, 0, none⟩)) rfl rfl (trivial) ?_
        simp only [Act.put, n1, n2, n3]
        refine gp 15 (some 41) (.pointer (some ⟨h.b, 0, none⟩)) rfl rfl (trivial) ?_
        simp only [Act.put, n1, n2, n3]
        have T8 := HP.add_to (q := newOb Bu17 v T cl mm ow) H hqu18 hO8 (show _ from hg8) hF8
        have hb8 : Holds X8 h.b (hcs h) := (hqu18.hp 0 rfl).blk.block (hg8.block _ ((hqu18.hp 0 rfl).blk.lt (by simp [hcs])) (fun e8 => by
          have := List.pairwise_cons.1 (hqu18.hp 0 rfl).dis
          exact this.1 _ (List.mem_cons_self ..) h.b (List.mem_singleton.2 rfl) (by have e9 : some h.b = h.gv.ownBlock := e8; show h.b ∈ h.gv.ownBlock.toList; rw [← e9]; simp)))
        refine gr (rs := [16]) (gskp 16 none rfl rfl (by kernel_rfl) (ex_store (vs := [.slice A (h.l.length + 1) c2]) rfl rfl rfl rfl (by simp [Value.oneCell']) szOs hb8 (by simp [hcs])) trivial ?_ gn)
        simp only [Act.put, n1, n2, n3]
        refine wpAnyH_done (by kernel_rfl) ?_ _
        try simp only [Act.put, n1, n2, n3]
        have HT8 := hide T8
        clear T8
        have h9 := len_h (h.more (.slice A (h.l.length + 1) c2) (newOb Bu17 v T cl mm ow)) _ (unhide HT8).is
        go_wp2_with fail
        refine h9.mono ?_
        rintro _ _ ⟨rfl, rfl⟩
        go_wp2
        go_ret2
        refine .inr ⟨hc, _, newOb Bu17 v T cl mm ow, ?_, rfl, rfl, rfl, rfl, rfl, pr_nil hr0, hl0, (unhide HT8)⟩
        show Ending.returned _ = _
        have e9 : ((h.more (.slice A (h.l.length + 1) c2) (newOb Bu17 v T cl mm ow)).l.length : Int) = (h.l.length : Int) + 1 := by unfold HP.more; simp
        rw [← e9]
        rfl
      · rintro e Yu21 ⟨T, rfl, hTu21, hr0, hl0, hlou21, hbTu21⟩
        have hqu21 := Sy.add hS4 (tabO_ok T) hTu21 hbTu21 (fun b hb => hlou21 b hb)
        refine ⟨_, rfl, trivial, ?_⟩
        refine gq 10 (some 36) (.agg (newOb 0 v T cl mm ow).cs.toArray) rfl rfl (fun X hX => ex_bob (newOb 0 v T cl mm ow) rfl rfl rfl rfl rfl rfl rfl rfl) (trivial) ?_
        simp only [Act.put, n1, n2, n3]
        refine gr (rs := [4, 11]) (gv 4 (some 30) rfl rfl (ex_load1 67 Tryz.isAgg67 rfl rfl ((hqu21.hp 0 rfl).blk) rfl) (trivial) ?_ (gbxS 11 (some 37) 100 ((newOb 0 v T cl mm ow).cs) rfl rfl (by kernel_rfl) rfl rfl rfl (Nat.succ_pos _) hqu21 (fun _ hZ => trivial) ?_ gn))
        · simp only [Act.put, n1, n2, n3]
          refine gr (rs := [11]) (gbxS 11 (some 37) 100 ((newOb 0 v T cl mm ow).cs) rfl rfl (by kernel_rfl) rfl rfl rfl (Nat.succ_pos _) hqu21 (fun _ hZ => trivial) ?_ gn)
          intro Yu23 Bu23 hEu23 hqu23
          clear hEu23
          simp only [Act.put, n1, n2, n3]
          refine gr (rs := [12]) (gbsS 12 (some 38) rfl rfl (by kernel_rfl) (ex_bsO rfl rfl) (Nat.succ_pos _) hqu23 (fun _ hZ => trivial) ?_ gn)
          intro Yu24 Bu24 hEu24 hqu24
          clear hEu24
          simp only [Act.put, n1, n2, n3]
          refine gr (rs := [13]) (gapR (e := 87) (size := 1) (bytes := 8) (z := .pointer none) (n := h.l.length) (base := 0) (xs := h.l.map OB.ptr) (news := [Value.pointer (some ⟨Bu23, 0, none⟩)]) 13 (some 39) rfl rfl (by kernel_rfl) rfl rfl rfl Tryz.underlying67 infOp rfl (by decide) (hqu24.hp 0 rfl).own (hqu24.hold 4 rfl) rfl (by simp [Value.oneCell']) (by omega) (by decide) (Nat.zero_le _) (fun _ => trivial) ?_ gn)
          intro A c2 X8 hO8 hg8 hF8
          simp only [Act.put, n1, n2, n3]
          refine gp 14 (some 40) (.pointer (some ⟨h.b, 0, none⟩)) rfl rfl (trivial) ?_
          simp only [Act.put, n1, n2, n3]
          refine gp 15 (some 41) (.pointer (some ⟨h.b, 0, none⟩)) rfl rfl (trivial) ?_
          simp only [Act.put, n1, n2, n3]
          have T8 := HP.add_to (q := newOb Bu23 v T cl mm ow) H hqu24 hO8 (show _ from hg8) hF8
          have hb8 : Holds X8 h.b (hcs h) := (hqu24.hp 0 rfl).blk.block (hg8.block _ ((hqu24.hp 0 rfl).blk.lt (by simp [hcs])) (fun e8 => by
            have := List.pairwise_cons.1 (hqu24.hp 0 rfl).dis
            exact this.1 _ (List.mem_cons_self ..) h.b (List.mem_singleton.2 rfl) (by have e9 : some h.b = h.gv.ownBlock := e8; show h.b ∈ h.gv.ownBlock.toList; rw [← e9]; simp)))
          refine gr (rs := [16]) (gskp 16 none rfl rfl (by kernel_rfl) (ex_store (vs := [.slice A (h.l.length + 1) c2]) rfl rfl rfl rfl (by simp [Value.oneCell']) szOs hb8 (by simp [hcs])) trivial ?_ gn)
          simp only [Act.put, n1, n2, n3]
          refine wpAnyH_done (by kernel_rfl) ?_ _
          try simp only [Act.put, n1, n2, n3]
          have HT8 := hide T8
          clear T8
          have h9 := len_h (h.more (.slice A (h.l.length + 1) c2) (newOb Bu23 v T cl mm ow)) _ (unhide HT8).is
          go_wp2_with fail
          refine h9.mono ?_
          rintro _ _ ⟨rfl, rfl⟩
          go_wp2
          go_ret2
          refine .inr ⟨hc, _, newOb Bu23 v T cl mm ow, ?_, rfl, rfl, rfl, rfl, rfl, pr_nil hr0, hl0, (unhide HT8)⟩
          show Ending.returned _ = _
          have e9 : ((h.more (.slice A (h.l.length + 1) c2) (newOb Bu23 v T cl mm ow)).l.length : Int) = (h.l.length : Int) + 1 := by unfold HP.more; simp
          rw [← e9]
          rfl
        · intro Yu27 Bu27 hEu27 hqu27
          clear hEu27
          simp only [Act.put, n1, n2, n3]
          refine gr (rs := [4, 12]) (gv 4 (some 30) rfl rfl (ex_load1 67 Tryz.isAgg67 rfl rfl ((hqu27.hp 0 rfl).blk) rfl) (trivial) ?_ (gbsS 12 (some 38) rfl rfl (by kernel_rfl) (ex_bsO rfl rfl) (Nat.succ_pos _) hqu27 (fun _ hZ => trivial) ?_ gn))
          · simp only [Act.put, n1, n2, n3]
            refine gr (rs := [12]) (gbsS 12 (some 38) rfl rfl (by kernel_rfl) (ex_bsO rfl rfl) (Nat.succ_pos _) hqu27 (fun _ hZ => trivial) ?_ gn)
            intro Yu29 Bu29 hEu29 hqu29
            clear hEu29
            simp only [Act.put, n1, n2, n3]
            refine gr (rs := [13]) (gapR (e := 87) (size := 1) (bytes := 8) (z := .pointer none) (n := h.l.length) (base := 0) (xs := h.l.map OB.ptr) (news := [Value.pointer (some ⟨Bu27, 0, none⟩)]) 13 (some 39) rfl rfl (by kernel_rfl) rfl rfl rfl Tryz.underlying67 infOp rfl (by decide) (hqu29.hp 0 rfl).own (hqu29.hold 4 rfl) rfl (by simp [Value.oneCell']) (by omega) (by decide) (Nat.zero_le _) (fun _ => trivial) ?_ gn)
            intro A c2 X8 hO8 hg8 hF8
            simp only [Act.put, n1, n2, n3]
            refine gp 14 (some 40) (.pointer (some ⟨h.b, 0, none⟩)) rfl rfl (trivial) ?_
            simp only [Act.put, n1, n2, n3]
            refine gp 15 (some 41) (.pointer (some ⟨h.b, 0, none⟩)) rfl rfl (trivial) ?_
            simp only [Act.put, n1, n2, n3]
            have T8 := HP.add_to (q := newOb Bu27 v T cl mm ow) H hqu29 hO8 (show _ from hg8) hF8
            have hb8 : Holds X8 h.b (hcs h) := (hqu29.hp 0 rfl).blk.block (hg8.block _ ((hqu29.hp 0 rfl).blk.lt (by simp [hcs])) (fun e8 => by
              have := List.pairwise_cons.1 (hqu29.hp 0 rfl).dis
              exact this.1 _ (List.mem_cons_self ..) h.b (List.mem_singleton.2 rfl) (by have e9 : some h.b = h.gv.ownBlock := e8; show h.b ∈ h.gv.ownBlock.toList; rw [← e9]; simp)))
            refine gr (rs := [16]) (gskp 16 none rfl rfl (by kernel_rfl) (ex_store (vs := [.slice A (h.l.length + 1) c2]) rfl rfl rfl rfl (by simp [Value.oneCell']) szOs hb8 (by simp [hcs])) trivial ?_ gn)
            simp only [Act.put, n1, n2, n3]
            refine wpAnyH_done (by kernel_rfl) ?_ _
            try simp only [Act.put, n1, n2, n3]
            have HT8 := hide T8
            clear T8
            have h9 := len_h (h.more (.slice A (h.l.length + 1) c2) (newOb Bu27 v T cl mm ow)) _ (unhide HT8).is
            go_wp2_with fail
            refine h9.mono ?_
            rintro _ _ ⟨rfl, rfl⟩
            go_wp2
            go_ret2
            refine .inr ⟨hc, _, newOb Bu27 v T cl mm ow, ?_, rfl, rfl, rfl, rfl, rfl, pr_nil hr0, hl0, (unhide HT8)⟩
            show Ending.returned _ = _
            have e9 : ((h.more (.slice A (h.l.length + 1) c2) (newOb Bu27 v T cl mm ow)).l.length : Int) = (h.l.length : Int) + 1 := by unfold HP.more; simp
            rw [← e9]
            rfl
          · intro Yu32 Bu32 hEu32 hqu32
            clear hEu32
            simp only [Act.put, n1, n2, n3]
            refine gr (rs := [4]) (gv 4 (some 30) rfl rfl (ex_load1 67 Tryz.isAgg67 rfl rfl ((hqu32.hp 0 rfl).blk) rfl) (trivial) ?_ gn)
            simp only [Act.put, n1, n2, n3]
            refine gr (rs := [13]) (gapR (e := 87) (size := 1) (bytes := 8) (z := .pointer none) (n := h.l.length) (base := 0) (xs := h.l.map OB.ptr) (news := [Value.pointer (some ⟨Bu27, 0, none⟩)]) 13 (some 39) rfl rfl (by kernel_rfl) rfl rfl rfl Tryz.underlying67 infOp rfl (by decide) (hqu32.hp 0 rfl).own (hqu32.hold 4 rfl) rfl (by simp [Value.oneCell']) (by omega) (by decide) (Nat.zero_le _) (fun _ => trivial) ?_ gn)
            intro A c2 X8 hO8 hg8 hF8
            simp only [Act.put, n1, n2, n3]
            refine gp 14 (some 40) (.pointer (some ⟨h.b, 0, none⟩)) rfl rfl (trivial) ?_
            simp only [Act.put, n1, n2, n3]
            refine gp 15 (some 41) (.pointer (some ⟨h.b, 0, none⟩)) rfl rfl (trivial) ?_
            simp only [Act.put, n1, n2, n3]
            have T8 := HP.add_to (q := newOb Bu27 v T cl mm ow) H hqu32 hO8 (show _ from hg8) hF8
            have hb8 : Holds X8 h.b (hcs h) := (hqu32.hp 0 rfl).blk.block (hg8.block _ ((hqu32.hp 0 rfl).blk.lt (by simp [hcs])) (fun e8 => by
              have := List.pairwise_cons.1 (hqu32.hp 0 rfl).dis
              exact this.1 _ (List.mem_cons_self ..) h.b (List.mem_singleton.2 rfl) (by have e9 : some h.b = h.gv.ownBlock := e8; show h.b ∈ h.gv.ownBlock.toList; rw [← e9]; simp)))
            refine gr (rs := [16]) (gskp 16 none rfl rfl (by kernel_rfl) (ex_store (vs := [.slice A (h.l.length + 1) c2]) rfl rfl rfl rfl (by simp [Value.oneCell']) szOs hb8 (by simp [hcs])) trivial ?_ gn)
            simp only [Act.put, n1, n2, n3]
            refine wpAnyH_done (by kernel_rfl) ?_ _
            try simp only [Act.put, n1, n2, n3]
            have HT8 := hide T8
            clear T8
            have h9 := len_h (h.more (.slice A (h.l.length + 1) c2) (newOb Bu27 v T cl mm ow)) _ (unhide HT8).is
            go_wp2_with fail
            refine h9.mono ?_
            rintro _ _ ⟨rfl, rfl⟩
            go_wp2
            go_ret2
            refine .inr ⟨hc, _, newOb Bu27 v T cl mm ow, ?_, rfl, rfl, rfl, rfl, rfl, pr_nil hr0, hl0, (unhide HT8)⟩
            show Ending.returned _ = _
            have e9 : ((h.more (.slice A (h.l.length + 1) c2) (newOb Bu27 v T cl mm ow)).l.length : Int) = (h.l.length : Int) + 1 := by unfold HP.more; simp
            rw [← e9]
            rfl
    · rintro e Yu36 ⟨T, rfl, hTu36, hr0, hl0, hlou36, hbTu36⟩
      have hqu36 := Sy.add hS4 (tabO_ok T) hTu36 hbTu36 (fun b hb => hlou36 b hb)
      refine ⟨_, rfl, trivial, ?_⟩
      simp only [Act.put, n1, n2, n3]
      refine gr (rs := [4, 6]) (gv 4 (some 30) rfl rfl (ex_load1 67 Tryz.isAgg67 rfl rfl ((hqu36.hp 0 rfl).blk) rfl) (trivial) ?_ (gv 6 (some 32) rfl rfl (ex_loadN (vs := v.cs) 24 5 rwV szV rfl rfl (hqu36.hold 1 rfl) rfl rfl) (trivial) ?_ gn))
      · simp only [Act.put, n1, n2, n3]
        refine gr (rs := [6]) (gv 6 (some 32) rfl rfl (ex_loadN (vs := v.cs) 24 5 rwV szV rfl rfl (hqu36.hold 1 rfl) rfl rfl) (trivial) ?_ gn)
        refine gq 10 (some 36) (.agg (newOb 0 v T cl mm ow).cs.toArray) rfl rfl (fun X hX => ex_bob (newOb 0 v T cl mm ow) rfl rfl rfl rfl rfl rfl rfl rfl) (trivial) ?_
        simp only [Act.put, n1, n2, n3]
        refine gr (rs := [11]) (gbxS 11 (some 37) 100 ((newOb 0 v T cl mm ow).cs) rfl rfl (by kernel_rfl) rfl rfl rfl (Nat.succ_pos _) hqu36 (fun _ hZ => trivial) ?_ gn)
        intro Yu39 Bu39 hEu39 hqu39
        clear hEu39
        simp only [Act.put, n1, n2, n3]
        refine gr (rs := [12]) (gbsS 12 (some 38) rfl rfl (by kernel_rfl) (ex_bsO rfl rfl) (Nat.succ_pos _) hqu39 (fun _ hZ => trivial) ?_ gn)
        intro Yu40 Bu40 hEu40 hqu40
        clear hEu40
        simp only [Act.put, n1, n2, n3]
        refine gr (rs := [13]) (gapR (e := 87) (size := 1) (bytes := 8) (z := .pointer none) (n := h.l.length) (base := 0) (xs := h.l.map OB.ptr) (news := [Value.pointer (some ⟨Bu39, 0, none⟩)]) 13 (some 39) rfl rfl (by kernel_rfl) rfl rfl rfl Tryz.underlying67 infOp rfl (by decide) (hqu40.hp 0 rfl).own (hqu40.hold 4 rfl) rfl (by simp [Value.oneCell']) (by omega) (by decide) (Nat.zero_le _) (fun _ => trivial) ?_ gn)
        intro A c2 X8 hO8 hg8 hF8
        simp only [Act.put, n1, n2, n3]
        refine gp 14 (some 40) (.pointer (some ⟨h.b, 0, none⟩)) rfl rfl (trivial) ?_
        simp only [Act.put, n1, n2, n3]
        refine gp 15 (some 41) (.pointer (some ⟨h.b, 0, none⟩)) rfl rfl (trivial) ?_
        simp only [Act.put, n1, n2, n3]
        have T8 := HP.add_to (q := newOb Bu39 v T cl mm ow) H hqu40 hO8 (show _ from hg8) hF8
        have hb8 : Holds X8 h.b (hcs h) := (hqu40.hp 0 rfl).blk.block (hg8.block _ ((hqu40.hp 0 rfl).blk.lt (by simp [hcs])) (fun e8 => by
          have := List.pairwise_cons.1 (hqu40.hp 0 rfl).dis
          exact this.1 _ (List.mem_cons_self ..) h.b (List.mem_singleton.2 rfl) (by have e9 : some h.b = h.gv.ownBlock := e8; show h.b ∈ h.gv.ownBlock.toList; rw [← e9]; simp)))
        refine gr (rs := [16]) (gskp 16 none rfl rfl (by kernel_rfl) (ex_store (vs := [.slice A (h.l.length + 1) c2]) rfl rfl rfl rfl (by simp [Value.oneCell']) szOs hb8 (by simp [hcs])) trivial ?_ gn)
        simp only [Act.put, n1, n2, n3]
        refine wpAnyH_done (by kernel_rfl) ?_ _
        try simp only [Act.put, n1, n2, n3]
        have HT8 := hide T8
        clear T8
        have h9 := len_h (h.more (.slice A (h.l.length + 1) c2) (newOb Bu39 v T cl mm ow)) _ (unhide HT8).is
        go_wp2_with fail
        refine h9.mono ?_
        rintro _ _ ⟨rfl, rfl⟩
        go_wp2
        go_ret2
        refine .inr ⟨hc, _, newOb Bu39 v T cl mm ow, ?_, rfl, rfl, rfl, rfl, rfl, pr_nil hr0, hl0, (unhide HT8)⟩
        show Ending.returned _ = _
        have e9 : ((h.more (.slice A (h.l.length + 1) c2) (newOb Bu39 v T cl mm ow)).l.length : Int) = (h.l.length : Int) + 1 := by unfold HP.more; simp
        rw [← e9]
        rfl
      · refine gq 10 (some 36) (.agg (newOb 0 v T cl mm ow).cs.toArray) rfl rfl (fun X hX => ex_bob (newOb 0 v T cl mm ow) rfl rfl rfl rfl rfl rfl rfl rfl) (trivial) ?_
        simp only [Act.put, n1, n2, n3]
        refine gr (rs := [4, 11]) (gv 4 (some 30) rfl rfl (ex_load1 67 Tryz.isAgg67 rfl rfl ((hqu36.hp 0 rfl).blk) rfl) (trivial) ?_ (gbxS 11 (some 37) 100 ((newOb 0 v T cl mm ow).cs) rfl rfl (by kernel_rfl) rfl rfl rfl (Nat.succ_pos _) hqu36 (fun _ hZ => trivial) ?_ gn))
        · simp only [Act.put, n1, n2, n3]
          refine gr (rs := [11]) (gbxS 11 (some 37) 100 ((newOb 0 v T cl mm ow).cs) rfl rfl (by kernel_rfl) rfl rfl rfl (Nat.succ_pos _) hqu36 (fun _ hZ => trivial) ?_ gn)
          intro Yu45 Bu45 hEu45 hqu45
          clear hEu45
          simp only [Act.put, n1, n2, n3]
          refine gr (rs := [12]) (gbsS 12 (some 38) rfl rfl (by kernel_rfl) (ex_bsO rfl rfl) (Nat.succ_pos _) hqu45 (fun _ hZ => trivial) ?_ gn)
          intro Yu46 Bu46 hEu46 hqu46
          clear hEu46
          simp only [Act.put, n1, n2, n3]
          refine gr (rs := [13]) (gapR (e := 87) (size := 1) (bytes := 8) (z := .pointer none) (n := h.l.length) (base := 0) (xs := h.l.map OB.ptr) (news := [Value.pointer (some ⟨Bu45, 0, none⟩)]) 13 (some 39) rfl rfl (by kernel_rfl) rfl rfl rfl Tryz.underlying67 infOp rfl (by decide) (hqu46.hp 0 rfl).own (hqu46.hold 4 rfl) rfl (by simp [Value.oneCell']) (by omega) (by decide) (Nat.zero_le _) (fun _ => trivial) ?_ gn)
          intro A c2 X8 hO8 hg8 hF8
          simp only [Act.put, n1, n2, n3]
          refine gp 14 (some 40) (.pointer (some ⟨h.b, 0, none⟩)) rfl rfl (trivial) ?_
          simp only [Act.put, n1, n2, n3]
          refine gp 15 (some 41) (.pointer (some ⟨h.b, 0, none⟩)) rfl rfl (trivial) ?_
          simp only [Act.put, n1, n2, n3]
          have T8 := HP.add_to (q := newOb Bu45 v T cl mm ow) H hqu46 hO8 (show _ from hg8) hF8
          have hb8 : Holds X8 h.b (hcs h) := (hqu46.hp 0 rfl).blk.block (hg8.block _ ((hqu46.hp 0 rfl).blk.lt (by simp [hcs])) (fun e8 => by
            have := List.pairwise_cons.1 (hqu46.hp 0 rfl).dis
            exact this.1 _ (List.mem_cons_self ..) h.b (List.mem_singleton.2 rfl) (by have e9 : some h.b = h.gv.ownBlock := e8; show h.b ∈ h.gv.ownBlock.toList; rw [← e9]; simp)))
          refine gr (rs := [16]) (gskp 16 none rfl rfl (by kernel_rfl) (ex_store (vs := [.slice A (h.l.length + 1) c2]) rfl rfl rfl rfl (by simp [Value.oneCell']) szOs hb8 (by simp [hcs])) trivial ?_ gn)
          simp only [Act.put, n1, n2, n3]
          refine wpAnyH_done (by kernel_rfl) ?_ _
          try simp only [Act.put, n1, n2, n3]
          have HT8 := hide T8
          clear T8
          have h9 := len_h (h.more (.slice A (h.l.length + 1) c2) (newOb Bu45 v T cl mm ow)) _ (unhide HT8).is
          go_wp2_with fail
          refine h9.mono ?_
          rintro _ _ ⟨rfl, rfl⟩
          go_wp2
          go_ret2
          refine .inr ⟨hc, _, newOb Bu45 v T cl mm ow, ?_, rfl, rfl, rfl, rfl, rfl, pr_nil hr0, hl0, (unhide HT8)⟩
          show Ending.returned _ = _
          have e9 : ((h.more (.slice A (h.l.length + 1) c2) (newOb Bu45 v T cl mm ow)).l.length : Int) = (h.l.length : Int) + 1 := by unfold HP.more; simp
          rw [← e9]
          rfl
        · intro Yu49 Bu49 hEu49 hqu49
          clear hEu49
          simp only [Act.put, n1, n2, n3]
          refine gr (rs := [4, 12]) (gv 4 (some 30) rfl rfl (ex_load1 67 Tryz.isAgg67 rfl rfl ((hqu49.hp 0 rfl).blk) rfl) (trivial) ?_ (gbsS 12 (some 38) rfl rfl (by kernel_rfl) (ex_bsO rfl rfl) (Nat.succ_pos _) hqu49 (fun _ hZ => trivial) ?_ gn))
          · simp only [Act.put, n1, n2, n3]
            refine gr (rs := [12]) (gbsS 12 (some 38) rfl rfl (by kernel_rfl) (ex_bsO rfl rfl) (Nat.succ_pos _) hqu49 (fun _ hZ => trivial) ?_ gn)
            intro Yu51 Bu51 hEu51 hqu51
            clear hEu51
            simp only [Act.put, n1, n2, n3]
            refine gr (rs := [13]) (gapR (e := 87) (size := 1) (bytes := 8) (z := .pointer none) (n := h.l.length) (base := 0) (xs := h.l.map OB.ptr) (news := [Value.pointer (some ⟨Bu49, 0, none⟩)]) 13 (some 39) rfl rfl (by kernel_rfl) rfl rfl rfl Tryz.underlying67 infOp rfl (by decide) (hqu51.hp 0 rfl).own (hqu51.hold 4 rfl) rfl (by simp [Value.oneCell']) (by omega) (by decide) (Nat.zero_le _) (fun _ => trivial) ?_ gn)
            intro A c2 X8 hO8 hg8 hF8
            simp only [Act.put, n1, n2, n3]
            refine gp 14 (some 40) (.pointer (some ⟨h.b, 0, none⟩)) rfl rfl (trivial) ?_
            simp only [Act.put, n1, n2, n3]
            refine gp 15 (some 41) (.pointer (some ⟨h.b, 0, none⟩)) rfl rfl (trivial) ?_
            simp only [Act.put, n1, n2, n3]
            have T8 := HP.add_to (q := newOb Bu49 v T cl mm ow) H hqu51 hO8 (show _ from hg8) hF8
            have hb8 : Holds X8 h.b (hcs h) := (hqu51.hp 0 rfl).blk.block (hg8.block _ ((hqu51.hp 0 rfl).blk.lt (by simp [hcs])) (fun e8 => by
              have := List.pairwise_cons.1 (hqu51.hp 0 rfl).dis
              exact this.1 _ (List.mem_cons_self ..) h.b (List.mem_singleton.2 rfl) (by have e9 : some h.b = h.gv.ownBlock := e8; show h.b ∈ h.gv.ownBlock.toList; rw [← e9]; simp)))
            refine gr (rs := [16]) (gskp 16 none rfl rfl (by kernel_rfl) (ex_store (vs := [.slice A (h.l.length + 1) c2]) rfl rfl rfl rfl (by simp [Value.oneCell']) szOs hb8 (by simp [hcs])) trivial ?_ gn)
            simp only [Act.put, n1, n2, n3]
            refine wpAnyH_done (by kernel_rfl) ?_ _
            try simp only [Act.put, n1, n2, n3]
            have HT8 := hide T8
            clear T8
            have h9 := len_h (h.more (.slice A (h.l.length + 1) c2) (newOb Bu49 v T cl mm ow)) _ (unhide HT8).is
            go_wp2_with fail
            refine h9.mono ?_
            rintro _ _ ⟨rfl, rfl⟩
            go_wp2
            go_ret2
            refine .inr ⟨hc, _, newOb Bu49 v T cl mm ow, ?_, rfl, rfl, rfl, rfl, rfl, pr_nil hr0, hl0, (unhide HT8)⟩
            show Ending.returned _ = _
            have e9 : ((h.more (.slice A (h.l.length + 1) c2) (newOb Bu49 v T cl mm ow)).l.length : Int) = (h.l.length : Int) + 1 := by unfold HP.more; simp
            rw [← e9]
            rfl
          · intro Yu54 Bu54 hEu54 hqu54
            clear hEu54
            simp only [Act.put, n1, n2, n3]
            refine gr (rs := [4]) (gv 4 (some 30) rfl rfl (ex_load1 67 Tryz.isAgg67 rfl rfl ((hqu54.hp 0 rfl).blk) rfl) (trivial) ?_ gn)
            simp only [Act.put, n1, n2, n3]
            refine gr (rs := [13]) (gapR (e := 87) (size := 1) (bytes := 8) (z := .pointer none) (n := h.l.length) (base := 0) (xs := h.l.map OB.ptr) (news := [Value.pointer (some ⟨Bu49, 0, none⟩)]) 13 (some 39) rfl rfl (by kernel_rfl) rfl rfl rfl Tryz.underlying67 infOp rfl (by decide) (hqu54.hp 0 rfl).own (hqu54.hold 4 rfl) rfl (by simp [Value.oneCell']) (by omega) (by decide) (Nat.zero_le _) (fun _ => trivial) ?_ gn)
            intro A c2 X8 hO8 hg8 hF8
            simp only [Act.put, n1, n2, n3]
            refine gp 14 (some 40) (.pointer (some ⟨h.b, 0, none⟩)) rfl rfl (trivial) ?_
            simp only [Act.put, n1, n2, n3]
            refine gp 15 (some 41) (.pointer (some ⟨h.b, 0, none⟩)) rfl rfl (trivial) ?_
            simp only [Act.put, n1, n2, n3]
            have T8 := HP.add_to (q := newOb Bu49 v T cl mm ow) H hqu54 hO8 (show _ from hg8) hF8
            have hb8 : Holds X8 h.b (hcs h) := (hqu54.hp 0 rfl).blk.block (hg8.block _ ((hqu54.hp 0 rfl).blk.lt (by simp [hcs])) (fun e8 => by
              have := List.pairwise_cons.1 (hqu54.hp 0 rfl).dis
              exact this.1 _ (List.mem_cons_self ..) h.b (List.mem_singleton.2 rfl) (by have e9 : some h.b = h.gv.ownBlock := e8; show h.b ∈ h.gv.ownBlock.toList; rw [← e9]; simp)))
            refine gr (rs := [16]) (gskp 16 none rfl rfl (by kernel_rfl) (ex_store (vs := [.slice A (h.l.length + 1) c2]) rfl rfl rfl rfl (by simp [Value.oneCell']) szOs hb8 (by simp [hcs])) trivial ?_ gn)
            simp only [Act.put, n1, n2, n3]
            refine wpAnyH_done (by kernel_rfl) ?_ _
            try simp only [Act.put, n1, n2, n3]
            have HT8 := hide T8
            clear T8
            have h9 := len_h (h.more (.slice A (h.l.length + 1) c2) (newOb Bu49 v T cl mm ow)) _ (unhide HT8).is
            go_wp2_with fail
            refine h9.mono ?_
            rintro _ _ ⟨rfl, rfl⟩
            go_wp2
            go_ret2
            refine .inr ⟨hc, _, newOb Bu49 v T cl mm ow, ?_, rfl, rfl, rfl, rfl, rfl, pr_nil hr0, hl0, (unhide HT8)⟩
            show Ending.returned _ = _
            have e9 : ((h.more (.slice A (h.l.length + 1) c2) (newOb Bu49 v T cl mm ow)).l.length : Int) = (h.l.length : Int) + 1 := by unfold HP.more; simp
            rw [← e9]
            rfl
  · have SS := hide H.start
    rw [vagg]
    go_enter Tryz.func21, Tryz.ntmps21
    go_wp2_with (first | go_skip | ((with_reducible show wpList _ _ _ _ _ _); first | (refine zB 24 (v.cs) (by rfl) rfl rfl rfl SS ?_; clear SS; intro Xa Ba SS; simp only [Act.put, n1, n2, n3])))
    have hS1 : Sy w _ h.blocks [hpO h, boxO Ba v.cs] := (unhide SS).drew
    clear SS
    refine wp_region_held_drew (P := Tryz.prog) (S := fun X => Sy w X h.blocks _) (by kernel_rfl) (hS1) (fun hS0 => ?_)
    refine gp 0 (some 13) (.pointer (some ⟨h.b, 0, none⟩)) rfl rfl (hS1) ?_
    simp only [Act.put, n1, n2, n3]
    refine gq 1 (some 14) (.agg (v.cs).toArray) rfl rfl (fun X hX => ex_loadN (vs := v.cs) 24 5 rwV szV rfl rfl (hX.hold 1 rfl) rfl rfl) (hS1) ?_
    simp only [Act.put, n1, n2, n3]
    refine gq 3 (some 16) (.agg (v.cs).toArray) rfl rfl (fun X hX => ex_loadN (vs := v.cs) 24 5 rwV szV rfl rfl (hX.hold 1 rfl) rfl rfl) (hS1) ?_
    simp only [Act.put, n1, n2, n3]
    refine gp 5 (some 18) (.pointer (some ⟨h.b, 0, none⟩)) rfl rfl (hS1) ?_
    simp only [Act.put, n1, n2, n3]
    refine gr (rs := [2]) (gcB 2 (some 15) rfl rfl hS1 (check_h h v _ (hS1.hp 0 rfl) (hT.fr hS1.fr H.low).1) id ?_ gn)
    intro Yt1 hqt1
    simp only [Act.put, n1, n2, n3]
    refine gr (rs := [4]) (gcB 4 (some 17) rfl rfl hqt1 (protoKind_any v _) id ?_ gn)
    intro Yt2 hqt2
    simp only [Act.put, n1, n2, n3]
    refine gr (rs := [6]) (gcB 6 (some 19) rfl rfl hqt2 (room_h h _ (hqt2.hp 0 rfl)) id ?_ gn)
    intro Yt3 hqt3
    simp only [Act.put, n1, n2, n3]
    refine gr (rs := [7]) (gbsS 7 (some 20) rfl rfl (by kernel_rfl) (ex_bsE3 rfl rfl rfl rfl) (Nat.succ_pos _) hqt3 (fun _ hZ => Sy.left (L := [_, _]) (M := [_]) hZ) ?_ gn)
    intro Yt4 Bt4 hEt4 hqt4
    clear hEt4
    simp only [Act.put, n1, n2, n3]
    refine gr (rs := [8]) (gcW 8 (some 21) rfl rfl (Sy.left (L := [_, _]) (M := [_]) hqt4) (or_any Bt4 3 [checkE h.l.length v, protoE v, roomE h] _ (hqt4.hold 2 rfl) (by simp)) ?_ gn)
    refine gp 9 (some 12) (.int .i64 (orE [checkE h.l.length v, protoE v, roomE h])) rfl rfl (Sy.left (L := [_, _]) (M := [_]) hqt4) ?_
    simp only [Act.put, n1, n2, n3]
    refine wpAnyH_done (by kernel_rfl) ?_ _
    try simp only [Act.put, n1, n2, n3]
    have SS := hide (Sy.left (L := [hpO h, boxO Ba v.cs]) (M := [boxO Bt4 (ints [checkE h.l.length v, protoE v, roomE h])]) hqt4)
    go_wp2_with (first | go_skip | ((with_reducible show wpList _ _ _ _ _ _); first | (refine rd (by rfl) (ex_neE1 rfl rfl rfl hc) ?_; simp only [Act.put, n1, n2, n3])))
    go_ret2
    exact .inl ⟨rfl, hc, HP.To.end H (unhide SS) rfl⟩
theorem ex_bhp {o : Oper} {a : Act} {w : World} {x1 x2 x3 : Operand} (c f d : Int) (ho : o.op = .build 69 #[(1, x1), (2, x2), (3, x3)]) (h1 : a.eval x1 = .int .i64 c) (h2 : a.eval x2 = .int .i64 f) (h3 : a.eval x3 = .int .i64 d) : (execOp a.eval o).run Tryz.prog w = .ok (.value (.agg (hcs ⟨0, .slice none 0 0, [], c, f, d, 0, noO, noO_ok⟩).toArray)) w := by
  have e : (Instr.build 69 #[(1, .int .i64 c), (2, .int .i64 f), (3, .int .i64 d)]).run Tryz.prog w = .ok (.agg (hcs ⟨0, .slice none 0 0, [], c, f, d, 0, noO, noO_ok⟩).toArray) w := by kernel_rfl
  unfold execOp
  simp only [ho, List.map_toArray, List.map_cons, List.map_nil, h1, h2, h3]
  simp [e]
def newBad (c f d : Int) : Bool := decide (c < 0) || (decide (65536 < c) || (decide (f < 0) || (decide (d < 1) || decide (256 < d))))
def newHP (b : Nat) (c f d : Int) : HP := ⟨b, .slice none 0 0, [], c, f, d, 0, noO, noO_ok⟩
theorem new_is {w X : World} {B : Nat} {c f d : Int} (S : Sy w X [] [boxO B (hcs ⟨0, .slice none 0 0, [], c, f, d, 0, noO, noO_ok⟩)]) (h6 : 6 ≤ w.heap.size) : (newHP B c f d).Is X := by
  have hB := S.hold 0 rfl
  have hlo : w.heap.size ≤ B := (S.lo _ (List.mem_cons_self ..) B (List.mem_singleton.2 rfl)).elim (fun h => by cases h) id
  refine ⟨fun o ho => ?_, ?_, fun b hb => ?_⟩
  · rcases List.mem_cons.1 ho with rfl | ho
    · exact ⟨hB, by simp [hcs]⟩
    rcases List.mem_cons.1 ho with rfl | ho
    · exact ⟨rfl, .inl ⟨rfl, rfl⟩⟩
    rcases List.mem_cons.1 ho with rfl | ho
    · exact trivial
    · cases ho
  · simp [HP.things, newHP, rowO, noO, Value.ownBlock]
  · have : b = B := by simpa [HP.blocks, HP.things, newHP, rowO, boxO, noO, Value.ownBlock] using hb
    omega
theorem new_blocks (B : Nat) (c f d : Int) : (newHP B c f d).blocks = [B] := by simp [HP.blocks, HP.things, newHP, rowO, boxO, noO, Value.ownBlock]
def NewP (c f d : Int) (w : World) (e : Ending) (w' : World) : Prop := (newBad c f d = true ∧ e = .returned (.tuple #[.pointer none, .int .i64 7]) ∧ Below w.heap.size w w') ∨ (newBad c f d = false ∧ ∃ B, e = .returned (.tuple #[.pointer (some ⟨B, 0, none⟩), .int .i64 0]) ∧ (newHP B c f d).Is w' ∧ w.heap.size ≤ B ∧ Below w.heap.size w w')
set_option maxRecDepth 100000 in
theorem new_h (c f d : Int) (w : World) (h6 : 6 ≤ w.heap.size) : Calls Tryz.prog 6 #[.int .i64 c, .int .i64 f, .int .i64 d] w (NewP c f d w) := by
  have SS := hide (Sy.nil w [])
  by_cases h1 : c < 0
  · have d1 : decide (c < 0) = true := decide_eq_true h1
    go_enter Tryz.func6, Tryz.ntmps6
    go_wp2
    go_ret2
    exact .inl ⟨by unfold newBad; simp [*], rfl, (unhide SS).fr.below⟩
  · have d1 : decide (c < 0) = false := decide_eq_false h1
    by_cases h2 : 65536 < c
    · have d2 : decide (65536 < c) = true := decide_eq_true h2
      go_enter Tryz.func6, Tryz.ntmps6
      go_wp2
      go_ret2
      exact .inl ⟨by unfold newBad; simp [*], rfl, (unhide SS).fr.below⟩
    · have d2 : decide (65536 < c) = false := decide_eq_false h2
      by_cases h3 : f < 0
      · have d3 : decide (f < 0) = true := decide_eq_true h3
        go_enter Tryz.func6, Tryz.ntmps6
        go_wp2
        go_ret2
        exact .inl ⟨by unfold newBad; simp [*], rfl, (unhide SS).fr.below⟩
      · have d3 : decide (f < 0) = false := decide_eq_false h3
        by_cases h4 : d < 1
        · have d4 : decide (d < 1) = true := decide_eq_true h4
          go_enter Tryz.func6, Tryz.ntmps6
          go_wp2
          go_ret2
          exact .inl ⟨by unfold newBad; simp [*], rfl, (unhide SS).fr.below⟩
        · have d4 : decide (d < 1) = false := decide_eq_false h4
          by_cases h5 : 256 < d
          · have d5 : decide (256 < d) = true := decide_eq_true h5
            go_enter Tryz.func6, Tryz.ntmps6
            go_wp2
            go_ret2
            exact .inl ⟨by unfold newBad; simp [*], rfl, (unhide SS).fr.below⟩
          · have d5 : decide (256 < d) = false := decide_eq_false h5
            go_enter Tryz.func6, Tryz.ntmps6
            go_wp2_with (first | go_skip | ((with_reducible show wpList _ _ _ _ _ _); first | (refine rd (by rfl) (ex_bhp c f d rfl rfl rfl rfl) ?_; simp only [Act.put, n1, n2, n3]) | (refine zB 69 (hcs ⟨0, .slice none 0 0, [], c, f, d, 0, noO, noO_ok⟩) (by rfl) rfl rfl rfl SS ?_; clear SS; intro Xa Ba SS; simp only [Act.put, n1, n2, n3])))
            go_ret2
            exact .inr ⟨by unfold newBad; simp [*], Ba, rfl, new_is (unhide SS) h6, ((unhide SS).lo _ (List.mem_cons_self ..) Ba (List.mem_singleton.2 rfl)).elim (fun h => by cases h) id, (unhide SS).fr.below⟩
