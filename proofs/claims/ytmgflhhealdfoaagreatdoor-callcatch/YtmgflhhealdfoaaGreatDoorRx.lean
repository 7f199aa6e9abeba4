import Derived.Test.YtmgflhhealdfoaaGreatDoorRw
set_option linter.all false
namespace Go.Proofs.YtmgflhhealdfoaaGreatDoor
set_option maxHeartbeats 1000000
section
open Go Go.Proofs Go.Maps Go.RowKit FM
attribute [local go_sem] mm_GetOwnProperty mm_DefineOwnProperty mm_Get ta_caller ta_builder
def fauT (k : Int) (v : VV) : List Value := [.int .i64 0, .int .i64 k] ++ v.cs
theorem fauT_one (k : Int) (v : VV) : ∀ u ∈ fauT k v, u.oneCell' = true := by simp [fauT, VV.cs, Value.oneCell']
theorem ta_thrE (p : Value) (w : World) : (Instr.typeAssert (.iface 121 p) 33 29 true).run Tryz.prog w = .ok (.tuple #[.int .i64 0, .bool false]) w := by kernel_rfl
theorem ex_taTE {o : Oper} {a : Act} {w : World} {x : Operand} {p : Value} (ho : o.op = .typeAssert x 33 29 true) (hx : a.eval x = .iface 121 p) : (execOp a.eval o).run Tryz.prog w = .ok (.value (.tuple #[.int .i64 0, .bool false])) w := by
  unfold execOp
  simp only [ho, hx]
  simp [ta_thrE]
theorem ex_taTT {o : Oper} {a : Act} {w : World} {x : Operand} {p : Value} (ho : o.op = .typeAssert x 33 121 true) (hx : a.eval x = .iface 121 p) : (execOp a.eval o).run Tryz.prog w = .ok (.value (.tuple #[p, .bool true])) w := by
  unfold execOp
  simp only [ho, hx]
  simp [ta_thr]
theorem ex_eqTN {o : Oper} {a : Act} {w : World} {x : Operand} {p : Value} (ho : o.op = .binOp .eql 33 x (.const .nilIface) 33) (hx : a.eval x = .iface 121 p) : (execOp a.eval o).run Tryz.prog w = .ok (.value (.bool false)) w := by
  unfold execOp
  simp only [ho, hx, show a.eval (.const .nilIface) = .nilIface from rfl]
  simp [go_sem, eqGuard]
theorem ex_neTP {o : Oper} {a : Act} {w : World} {x : Operand} {B : Nat} (ho : o.op = .binOp .neq 121 x (.const (.pointer none)) 121) (hx : a.eval x = .pointer (some ⟨B, 0, none⟩)) : (execOp a.eval o).run Tryz.prog w = .ok (.value (.bool true)) w := by
  unfold execOp
  simp only [ho, hx, show a.eval (.const (.pointer none)) = .pointer none from rfl]
  simp [go_sem, eqGuard]
theorem ex_bFT {o : Oper} {a : Act} {w : World} {x y : Operand} (k : Int) (v : VV) (ho : o.op = .build 55 #[(1, x), (2, y)]) (hx : a.eval x = .int .i64 k) (hy : a.eval y = .agg v.cs.toArray) : (execOp a.eval o).run Tryz.prog w = .ok (.value (.agg (fauT k v).toArray)) w := by
  have e : (Instr.build 55 #[(1, .int .i64 k), (2, .agg v.cs.toArray)]).run Tryz.prog w = .ok (.agg (fauT k v).toArray) w := by kernel_rfl
  unfold execOp
  simp only [ho, List.map_toArray, List.map_cons, List.map_nil, hx, hy]
  simp [e]
theorem eqlK (a b : KK) (w : World) : (binOp .eql 26 a.agg b.agg).run Tryz.prog w = .ok (.bool (decide (a = b))) w := by
  unfold KK.agg
  have ht : Tryz.prog.underlying 26 = some (.struct (Tryz.prog.fieldsOf 26)) := by kernel_rfl
  rw [run_eql_struct, show (10000 : Nat) = 9998 + 1 + 1 from rfl, run_equalIn_struct _ _ _ _ _ ht (by kernel_rfl)]
  have hf : Tryz.prog.fieldsOf 26 = (match Tryz.prog.underlying 26 with | some (.struct f) => f | _ => #[]) := by kernel_rfl
  rw [hf, Tryz.underlying26]
  simp [Op.eqFields, go_sem, part]
  by_cases h1 : a.s.toList = b.s.toList
  · by_cases h2 : a.n = b.n
    · rw [if_pos h1, if_pos h2, decide_eq_true (KK.ext' (toList_inj h1) h2)]
    · rw [if_pos h1, if_neg h2, decide_eq_false (fun e : a = b => h2 (congrArg KK.n e))]
  · rw [if_neg h1, decide_eq_false (fun e : a = b => h1 (congrArg (fun z : KK => z.s.toList) e))]
theorem ex_eqlK {o : Oper} {a : Act} {w : World} {x y : Operand} {k q : KK} {r : Bool} (ho : o.op = .binOp .eql 26 x y 26) (hx : a.eval x = .agg k.cs.toArray) (hy : a.eval y = .agg q.cs.toArray) (h : decide (k = q) = r) : (execOp a.eval o).run Tryz.prog w = .ok (.value (.bool r)) w := by
  subst h
  have e := eqlK k q w
  have e2 : (eqGuard .eql 26 x y k.agg q.agg).run Tryz.prog w = .ok () w := by kernel_rfl
  rw [kagg, kagg] at e e2
  unfold execOp
  simp only [ho, hx, hy]
  simp [e, e2]
set_option maxHeartbeats 2000000 in
set_option maxRecDepth 100000 in
theorem fault_t (v : VV) (Bt : Nat) (w : World) (hH : Holds w Bt (tcs 1 v)) : Calls Tryz.prog 40 #[thrV Bt] w fun e w' => e = .returned (.agg (fauT 1 v).toArray) ∧ Below w.heap.size w w' := by
  have SS := hide (Sy.nil w [])
  have HH : Hid (∀ X, Below w.heap.size w X → Holds X Bt (tcs 1 v)) := hide (fun X k => hH.block (k.block Bt (hH.lt (Nat.succ_pos _))))
  clear hH
  unfold thrV
  go_enter Tryz.func40, Tryz.ntmps40
  go_wp2_with (first | go_skip | ((with_reducible show wpList _ _ _ _ _ _); first | (refine zA 55 (fauT 0 zeroV) (by rfl) rfl SS ?_; clear SS; intro Xa Ba SS; simp only [Act.put, n1, n2, n3]) | (refine rd (by rfl) (ex_eqTN rfl rfl) ?_; simp only [Act.put, n1, n2, n3]) | (refine rd (by rfl) (ex_taTE rfl rfl) ?_; simp only [Act.put, n1, n2, n3]) | (refine rd (by rfl) (ex_taTT rfl rfl) ?_; simp only [Act.put, n1, n2, n3]) | (refine rd (by rfl) (ex_neTP rfl rfl) ?_; simp only [Act.put, n1, n2, n3])))
  have hS : Sy w _ [] [boxO Ba (fauT 0 zeroV)] := (unhide SS).drew
  clear SS
  have cu : ∀ {X : World} {M : List Ob}, Sy w X [] ([] ++ M) → Sy w X [] [] := fun h => Sy.left h
  refine wp_region_held_drew (P := Tryz.prog) (S := fun X => Sy w X [] []) (by kernel_rfl) (cu hS) (fun hS0 => ?_)
  refine gp 0 (some 19) (.pointer (some ⟨Bt, 0, none⟩)) rfl rfl (cu hS) ?_
  simp only [Act.put, n1, n2, n3]
  refine gp 1 (some 20) (.pointer (some ⟨Bt, 0, none⟩)) rfl rfl (cu hS) ?_
  simp only [Act.put, n1, n2, n3]
  refine gp 2 (some 21) (.pointer (some ⟨Bt, 0, none⟩)) rfl rfl (cu hS) ?_
  simp only [Act.put, n1, n2, n3]
  refine gq 3 (some 22) (.int .i64 1) rfl rfl (fun X hX => ex_load1 3 Tryz.isAgg3 rfl rfl (unhide HH _ hX.fr.below) rfl) (cu hS) ?_
  simp only [Act.put, n1, n2, n3]
  refine gp 4 (some 23) (.pointer (some ⟨Bt, 0, none⟩)) rfl rfl (cu hS) ?_
  simp only [Act.put, n1, n2, n3]
  refine gp 5 (some 24) (.pointer (some ⟨Bt, 0, none⟩)) rfl rfl (cu hS) ?_
  simp only [Act.put, n1, n2, n3]
  refine gp 6 (some 25) (.pointer (some ⟨Bt, 1, none⟩)) rfl rfl (cu hS) ?_
  simp only [Act.put, n1, n2, n3]
  refine gq 7 (some 26) (.agg v.cs.toArray) rfl rfl (fun X hX => ex_loadN (vs := v.cs) 24 5 rwV szV rfl rfl (unhide HH _ hX.fr.below) rfl rfl) (cu hS) ?_
  simp only [Act.put, n1, n2, n3]
  refine gq 8 (some 27) (.agg (fauT 1 v).toArray) rfl rfl (fun X hX => ex_bFT 1 v rfl rfl rfl) (cu hS) ?_
  simp only [Act.put, n1, n2, n3]
  refine gr (rs := [9]) (gstS (vs := fauT 1 v) (new := fauT 1 v) 9 0 55 rfl rfl (by kernel_rfl) rfl rfl rfl rfl (fauT_one _ _) szF hS rfl (by simp [cput, fauT, VV.cs, KK.cs, DD.cs, OB.cs, hcs, zeroD, zeroV]) (by simp [cput, fauT, VV.cs, KK.cs, DD.cs, OB.cs, hcs, zeroD, zeroV]) (fun _ hZ => cu hZ) ?_ gn)
  intro Yt1 hqt1
  refine wpAnyH_done (by kernel_rfl) ?_ _
  try simp only [Act.put, n1, n2, n3]
  have SS := hide hqt1
  go_wp2
  refine ret_c rwF szF rfl rfl rfl ((unhide SS).hold 0 rfl) rfl ?_
  exact ⟨rfl, (unhide SS).fr.below⟩
set_option maxHeartbeats 2000000 in
set_option maxRecDepth 100000 in
theorem Fault_t (v : VV) (Bt : Nat) (w : World) (hH : Holds w Bt (tcs 1 v)) : Calls Tryz.prog 13 #[thrV Bt] w fun e w' => e = .returned (.agg (fauT 1 v).toArray) ∧ Below w.heap.size w w' := by
  have SS := hide (Sy.nil w [])
  have HH : Hid (∀ X, Below w.heap.size w X → Holds X Bt (tcs 1 v)) := hide (fun X k => hH.block (k.block Bt (hH.lt (Nat.succ_pos _))))
  clear hH
  have HF := hide (fun (X : World) (k : Below w.heap.size w X) => fault_t v Bt X (unhide HH X k))
  unfold thrV at *
  go_enter Tryz.func13, Tryz.ntmps13
  go_wp2_with (first | go_skip | ((with_reducible show wpList _ _ _ _ _ _); first | (refine zA 55 (fauT 0 zeroV) (by rfl) rfl SS ?_; clear SS; intro Xa Ba SS; simp only [Act.put, n1, n2, n3])))
  refine (unhide HF _ (unhide SS).fr.below).mono ?_
  rintro _ Y ⟨rfl, hb⟩
  replace SS := hide ((unhide SS).on hb)
  clear hb
  go_wp2_with (first | go_skip | ((with_reducible show wpList _ _ _ _ _ _); first | (refine zS (hp := (by simp [fauT, VV.cs])) (fauT 1 v) 0 55 (by rfl) rfl rfl rfl rfl (fauT_one _ _) szF SS rfl ?_; clear SS; intro Xz SS; simp only [Act.put, n1, n2, n3])))
  refine ret_c rwF szF rfl rfl rfl ((unhide SS).hold 0 rfl) rfl ?_
  exact ⟨rfl, (unhide SS).fr.below⟩
theorem good_th {v : VV} (h : v.good = true) : thV v = true := by
  refine th_k fun h0 => ?_
  unfold VV.good goodV inG at h
  rw [h0] at h
  simp at h
theorem snd_T : sndV opT = true := by kernel_rfl
theorem snd_R4 : sndV (opR 4) = true := by kernel_rfl
theorem snd_W (ct : Bool) : sndV (opW ct) = true := by cases ct <;> kernel_rfl
theorem snd_C (v : VV) : sndV (opC 1 v) = v.good := by
  have h1 : rgB (opC 1 v).t = true := by show rgB 1 = true; decide
  have h2 : regL (opC 1 v) = [] := by unfold regL opC; simp
  have h3 : useK (opC 1 v).c = false := by show useK 1 = false; decide
  have h4 : rstV (opC 1 v) = v.good := by unfold rstV opC; simp
  unfold sndV
  rw [h1, h2, h3, h4]
  simp
theorem snd_D (t b : Int) (k : KK) (h1 : rgB t = true) (hb : rgB b = true) : sndV (opD t b k) = goodK k := by
  have h2 : regL (opD t b k) = [0, b] := by unfold regL opD; simp
  have h3 : useK (opD t b k).c = true := by show useK 12 = true; decide
  have h4 : rstV (opD t b k) = true := by
    show rstV (opD t b k) = true
    unfold rstV opD
    have z : rgoodV zeroD = true := by kernel_rfl
    have z2 : accD zeroD = false := by kernel_rfl
    simp [z, z2]
  have h5 : rgB 0 = true := by decide
  unfold sndV
  rw [show (opD t b k).t = t from rfl, h1, h2, h3, h4, show (opD t b k).k = k from rfl]
  simp [hb, h5]
theorem allS_C (v : VV) (ct : Bool) (k d : KK) : allS (bodC v ct k d) = (v.good && (goodK k && goodK d)) := by
  unfold allS bodC
  simp only [List.all_cons, List.all_nil, snd_T, snd_C, snd_D 2 1 k (by decide) (by decide), snd_W, snd_D 4 3 d (by decide) (by decide), snd_R4]
  cases v.good <;> cases goodK k <;> cases goodK d <;> rfl
theorem knO_C (n : Nat) (v : VV) (ct : Bool) (k d : KK) : (bodC v ct k d).all (knO n) = knV n v := by
  have hz : knV n zeroV = true := rfl
  have e1 : knO n opT = true := rfl
  have e2 : knO n (opC 1 v) = knV n v := by
    have : namedL (opC 1 v) = [v] := by unfold namedL opC; simp
    unfold knO
    rw [this]
    simp
  have e3 : ∀ t b k, knO n (opD t b k) = true := fun t b k => by
    have : namedL (opD t b k) = [zeroV, zeroV, zeroV] := by unfold namedL opD zeroD; simp
    unfold knO
    rw [this]
    simp [hz]
  have e4 : knO n (opW ct) = true := rfl
  have e5 : knO n (opR 4) = true := rfl
  unfold bodC
  simp only [List.all_cons, List.all_nil, e1, e2, e3, e4, e5]
  simp
theorem kn_good {n : Nat} {v : VV} (hg : v.good = true) (h : knV n v = true) : knownE n [v] = 0 := by
  unfold knV checkE at h
  rw [hg] at h
  by_cases h7 : (v.k == 7) = true
  · rw [h7] at h
    simpa using h
  · have : (v.k == 7) = false := by simpa using h7
    unfold knownE knownV
    simp [this]
theorem kn_bad {n : Nat} {v : VV} (h : knV n v = false) : v.k = 7 := by
  unfold knV at h
  by_cases h7 : (v.k == 7) = true
  · simpa using h7
  · have : (v.k == 7) = false := by simpa using h7
    rw [this] at h
    cases h
theorem newE_is (h : HP) (l : List OP) (hl : h.l.length = 1) : newE h nullV l = if allS l then (if l.all (knO 1) then 0 else 4) else 5 := by
  have e1 : checkE 1 nullV = 0 := by kernel_rfl
  have e2 : protoE nullV = 0 := by kernel_rfl
  unfold newE wfE knOE
  rw [hl, e1, e2]
  cases allS l <;> cases l.all (knO 1) <;> rfl
theorem newC_ok {h : HP} {v : VV} {ct : Bool} {k d : KK} (hl : h.l.length = 1) (h0 : newE h nullV (bodC v ct k d) = 0) : v.good = true ∧ goodK k = true ∧ goodK d = true ∧ knownE 2 [v] = 0 := by
  rw [newE_is h _ hl, allS_C, knO_C] at h0
  cases h1 : v.good <;> cases h2 : goodK k <;> cases h3 : goodK d <;> cases h4 : knV 1 v <;> rw [h1, h2, h3, h4] at h0 <;> simp at h0 ⊢
  have h5 := kn_good h1 h4
  unfold knownE knownV hasH at h5 ⊢
  by_cases h7 : (v.k == 7) = true
  · simp [h7] at h5 ⊢
    omega
  · have : (v.k == 7) = false := by simpa using h7
    simp [this]
theorem newC_no {h : HP} {v : VV} {ct : Bool} {k d : KK} (hl : h.l.length = 1) (h0 : newE h nullV (bodC v ct k d) ≠ 0) : allS (bodC v ct k d) = false ∨ (allS (bodC v ct k d) = true ∧ v.k = 7) := by
  rw [newE_is h _ hl, knO_C] at h0
  cases h1 : allS (bodC v ct k d)
  · exact .inl rfl
  · rw [h1] at h0
    cases h4 : knV 1 v
    · exact .inr ⟨rfl, kn_bad h4⟩
    · rw [h4] at h0
      exact absurd rfl h0
theorem PC2_y {v : VV} {k d : KK} (h : k = d) : PC2 v k d = [(k, dn v)] := by
  subst h
  simp [PC2, putP, hasP]
theorem PC2_n {v : VV} {k d : KK} (h : k ≠ d) : PC2 v k d = [(k, dn v), (d, dn v)] := by simp [PC2, putP, hasP, h]
/-- Two objects: an ordinary one without properties, and a function whose body is that of CallCatch. -/
structure CW (h : HP) (qa qb : OB) (g c : Nat) (l : List OP) : Prop where
  ls : h.l = [qa, qb]
  bod : h.body g c l
  m : qb.m = 1
  ow : qb.ow = some (81, pgV g c l false)
  K : h.Ok
  f : 50 ≤ h.fuel
  e : h.ent + 4 ≤ h.depth
  x : qa.x = true
  p : pr qa.T = []
  t : qa.T.last = 0
def CallP (v : VV) (ct : Bool) (k d : KK) (h : HP) (w : World) (e : Ending) (w' : World) : Prop := ∃ h3 V er x q2, e = .returned (.tuple #[VV.agg V, er]) ∧ h3.l.length ≤ 65536 ∧ h3.l[0]? = some q2 ∧ q2.T.last < 100000 ∧ ((ct = true ∧ pr q2.T = PC2 v k d ∧ V = boolV true ∧ er = .nilIface ∧ x = noO) ∨ (ct = false ∧ pr q2.T = [(k, dn v)] ∧ V = zeroV ∧ ∃ Bt, er = thrV Bt ∧ x = boxO Bt (tcs 1 v))) ∧ New x h3 w.heap.size w' ∧ h.To h3 w w'
theorem c_call (h : HP) (qa qb : OB) (g c : Nat) (v : VV) (ct : Bool) (k d : KK) (w : World) (H : h.Is w) (hT : Tabs w) (A : CW h qa qb g c (bodC v ct k d)) (hx64 : v.x < 2 ^ 64) (hg : v.good = true) (hk : goodK k = true) (hkd : goodK d = true) (hkn : knownE 2 [v] = 0) : Calls Tryz.prog 10 #[.pointer (some ⟨h.b, 0, none⟩), .int .i64 ((1 : Nat) + 1 : Int), (refV 1).agg, .slice none 0 0] w (CallP v ct k d h w) := by
  have hj0 : h.l[0]? = some qa := by rw [A.ls]; rfl
  have hj1 : h.l[1]? = some qb := by rw [A.ls]; rfl
  have hlen : h.l.length = 2 := by rw [A.ls]; rfl
  have hf := A.f
  have hd := A.e
  have Ki : h.inn.Ok := innOk A.K (by omega) (by omega)
  have hz : orE [thE ((1 : Nat) + 1 : Int) h.l.length, soundE [refV 1], soundE [], knownE h.l.length [refV 1], knownE h.l.length [], 0] = 0 := by
    rw [hlen]
    kernel_rfl
  have hen : ∀ h2 V er x, finC h.inn v ct k d h2 V er x → h2.ent = h.ent + 1 := by
    rintro h2 V er x (⟨-, I, -⟩ | ⟨-, I, -⟩)
    · exact I.e
    · exact I.e
  refine (dcall_h h 1 (refV 1) (fun h3 V er x => ∃ h2, h3 = h2.out ∧ finC h.inn v ct k d h2 V er x) w H hT hz (fun X TX => ?_)).mono ?_
  · refine fcall_h h 1 qb g c (bodC v ct k d) false (refV 1) none 0 0 (stC h.inn v ct k d) (finC h.inn v ct k d) X TX.is (TX.tabs H hT) A.K hj1 A.m (by omega) (by omega) A.ow (fun B Z hB hTZ => ?_) (.inl ⟨rfl, ?_, rfl⟩) hen
    · exact runsC h.inn B g c _ _ _ v ct k d Z hB H.low hTZ A.bod (by show 20 ≤ h.fuel - 1; omega) (by show h.ent + 1 ≠ h.depth; omega) hx64 hk hkd hg (good_th hg) (by show knownE h.l.length [v] = 0; rw [hlen]; exact hkn)
    · exact ⟨rfl, Ki, by show h.fuel - 1 = h.fuel - 1 - ((0 : Nat) : Int); omega, rfl, rfl, rfl, rfl, qa, hj0, A.x, by rw [A.t]; exact Nat.le_refl 0, A.p⟩
  · rintro e Y ⟨h3, V, er, x, rfl, ⟨h2, rfl, hF⟩, N, T⟩
    rcases hF with ⟨rfl, I, rfl, rfl, rfl⟩ | ⟨rfl, I, rfl, Bt, rfl, rfl⟩
    · obtain ⟨q, hj, -, hl, hp⟩ := I.q
      exact ⟨h2.out, _, _, _, q, rfl, I.K.len, hj, by omega, .inl ⟨rfl, hp, rfl, rfl, rfl⟩, N, T⟩
    · obtain ⟨q, hj, -, hl, hp⟩ := I.q
      exact ⟨h2.out, _, _, _, q, rfl, I.K.len, hj, by omega, .inr ⟨rfl, hp, rfl, Bt, rfl, rfl⟩, N, T⟩
