import Derived.Test.YtmgflhhealdfoaaGreatDoorRt
set_option linter.all false
namespace Go.Proofs.YtmgflhhealdfoaaGreatDoor
set_option maxHeartbeats 1000000
section
open Go Go.Proofs Go.Maps Go.RowKit FM
attribute [local go_sem] mm_GetOwnProperty mm_DefineOwnProperty mm_Get ta_caller ta_builder
theorem live_last {T : TT} {W : World} (h : T.Is W) : T.live.length ≤ T.last := by
  have h1 : T.live.length ≤ T.rows.length := List.length_filter_le _ _
  have h2 := h.rise
  have h3 := h.num
  clear h
  have key : ∀ (l : List RR) (m : Nat), l.Pairwise (fun a b => a.n < b.n) → (∀ r ∈ l, m < r.n ∧ r.n ≤ T.last) → l.length + m ≤ T.last ∨ l = [] := by
    intro l
    induction l with
    | nil => exact fun m _ _ => .inr rfl
    | cons a l ih =>
      intro m hp hn
      left
      rw [List.pairwise_cons] at hp
      rcases ih a.n hp.2 (fun r hr => ⟨hp.1 r hr, (hn r (List.mem_cons_of_mem _ hr)).2⟩) with h | h
      · have := (hn a (List.mem_cons_self ..)).1
        simp only [List.length_cons]
        omega
      · subst h
        have := hn a (List.mem_cons_self ..)
        simp only [List.length_cons, List.length_nil]
        omega
  rcases key T.rows 0 h2 (fun r hr => ⟨(h3 r hr).1, (h3 r hr).2⟩) with h | h
  · omega
  · rw [h] at h1
    simp at h1
    rw [h1]
    exact Nat.zero_le _

/-! Shapes. -/
def shC (s : PO) (v : Value) : List Value := [.int .i64 s.c] ++ s.p.cs ++ [.bool s.x, v]
theorem shC_one (s : PO) (A : Option Addr) (n c : Nat) : ∀ u ∈ shC s (.slice A n c), u.oneCell' = true := by simp [shC, VV.cs, Value.oneCell']
def zeroPO : PO := ⟨0, zeroV, false, []⟩
theorem ex_bsh {o : Oper} {a : Act} {w : World} {x0 x1 x2 x3 : Operand} (s : PO) (v : Value) (A : Option Addr) (n c : Nat) (hv : v = .slice A n c) (ho : o.op = .build 48 #[(0, x0), (1, x1), (2, x2), (3, x3)]) (h0 : a.eval x0 = .int .i64 s.c) (h1 : a.eval x1 = .agg s.p.cs.toArray) (h2 : a.eval x2 = .bool s.x) (h3 : a.eval x3 = v) : (execOp a.eval o).run Tryz.prog w = .ok (.value (.agg (shC s v).toArray)) w := by
  subst hv
  have e : (Instr.build 48 #[(0, .int .i64 s.c), (1, .agg s.p.cs.toArray), (2, .bool s.x), (3, .slice A n c)]).run Tryz.prog w = .ok (.agg (shC s (.slice A n c)).toArray) w := by kernel_rfl
  unfold execOp
  simp only [ho, List.map_toArray, List.map_cons, List.map_nil, h0, h1, h2, h3]
  simp [e]
theorem pr_len (T : TT) : (pr T).length = T.live.length := List.length_map _
set_option maxRecDepth 100000 in
theorem shape_h (h : HP) (j : Nat) (q : OB) (w : World) (H : h.Is w) (hj : h.l[j]? = some q) (hlast : q.T.last < 100000) : Calls Tryz.prog 38 #[.pointer (some ⟨q.b, 0, none⟩)] w fun e w' => ∃ A c, e = .returned (.agg (shC q.po (.slice A q.po.ps.length c)).toArray) ∧ w'.ownsRow w.heap.size 53 20 (.slice A q.po.ps.length c) q.po.ps.length (flatP q.po.ps) ∧ Below w.heap.size w w' := by
  have hlive : q.T.live.length ≤ 800000 := by have := live_last (H.ob hj).2.1; omega
  have SS := hide (Sy.nil w [])
  go_enter Tryz.func38, Tryz.ntmps38
  go_wp2_with (first | go_skip | ((with_reducible show wpList _ _ _ _ _ _); first | (refine zA 48 (shC zeroPO (.slice none 0 0)) (by rfl) rfl SS ?_; clear SS; intro Xa Ba SS; simp only [Act.put, n1, n2, n3])))
  have hS : Sy w _ [] [boxO Ba (shC zeroPO (.slice none 0 0))] := (unhide SS).drew
  clear SS
  have cu : ∀ {X : World} {M : List Ob}, Sy w X [] ([] ++ M) → Sy w X [] [] := fun h => Sy.left h
  refine wp_region_held_drew (P := Tryz.prog) (S := fun X => Sy w X [] []) (by kernel_rfl) (cu hS) (fun hS0 => ?_)
  refine gp 0 (some 3) (.pointer (some ⟨q.b, 0, none⟩)) rfl rfl (cu hS) ?_
  simp only [Act.put, n1, n2, n3]
  refine gp 1 (some 4) (.pointer (some ⟨q.b, 0, none⟩)) rfl rfl (cu hS) ?_
  simp only [Act.put, n1, n2, n3]
  refine gp 2 (some 5) (.pointer (some ⟨q.b, 0, none⟩)) rfl rfl (cu hS) ?_
  simp only [Act.put, n1, n2, n3]
  refine gq 3 (some 6) (.int .i64 q.c) rfl rfl (fun X hX => ex_load1 3 Tryz.isAgg3 rfl rfl ((H.on hX.fr.below).ob hj).1 rfl) (cu hS) ?_
  simp only [Act.put, n1, n2, n3]
  refine gp 4 (some 7) (.pointer (some ⟨q.b, 0, none⟩)) rfl rfl (cu hS) ?_
  simp only [Act.put, n1, n2, n3]
  refine gp 5 (some 8) (.pointer (some ⟨q.b, 0, none⟩)) rfl rfl (cu hS) ?_
  simp only [Act.put, n1, n2, n3]
  refine gp 6 (some 9) (.pointer (some ⟨q.b, 1, none⟩)) rfl rfl (cu hS) ?_
  simp only [Act.put, n1, n2, n3]
  refine gq 7 (some 10) (.agg q.p.cs.toArray) rfl rfl (fun X hX => ex_loadN (vs := q.p.cs) 24 5 rwV szV rfl rfl ((H.on hX.fr.below).ob hj).1 rfl rfl) (cu hS) ?_
  simp only [Act.put, n1, n2, n3]
  refine gp 8 (some 11) (.pointer (some ⟨q.b, 0, none⟩)) rfl rfl (cu hS) ?_
  simp only [Act.put, n1, n2, n3]
  refine gp 9 (some 12) (.pointer (some ⟨q.b, 0, none⟩)) rfl rfl (cu hS) ?_
  simp only [Act.put, n1, n2, n3]
  refine gp 10 (some 13) (.pointer (some ⟨q.b, 6, none⟩)) rfl rfl (cu hS) ?_
  simp only [Act.put, n1, n2, n3]
  refine gq 11 (some 14) (.bool q.x) rfl rfl (fun X hX => ex_load1 4 Tryz.isAgg4 rfl rfl ((H.on hX.fr.below).ob hj).1 rfl) (cu hS) ?_
  simp only [Act.put, n1, n2, n3]
  refine gp 12 (some 15) (.pointer (some ⟨q.b, 0, none⟩)) rfl rfl (cu hS) ?_
  simp only [Act.put, n1, n2, n3]
  refine gp 13 (some 16) (.pointer (some ⟨q.b, 0, none⟩)) rfl rfl (cu hS) ?_
  simp only [Act.put, n1, n2, n3]
  refine gp 14 (some 17) (.pointer (some ⟨q.b, 7, none⟩)) rfl rfl (cu hS) ?_
  simp only [Act.put, n1, n2, n3]
  refine gq 15 (some 18) (.pointer (some ⟨q.T.t, 0, none⟩)) rfl rfl (fun X hX => ex_load1 97 Tryz.isAgg97 rfl rfl ((H.on hX.fr.below).ob hj).1 rfl) (cu hS) ?_
  simp only [Act.put, n1, n2, n3]
  refine gr (rs := [16]) (gc 16 (some 19) rfl rfl (props27 q.T _ ((H.on hS.fr.below).ob hj).2.1 (by omega) hlive) ?_ gn)
  rintro e Y1 ⟨v, rfl, hO1, hY1⟩
  obtain ⟨A, c, rfl⟩ := own_form hO1
  have hq1 := Sy.addRow hS hO1 hY1 hS.fr.size
  refine ⟨_, rfl, cu hq1, ?_⟩
  refine gq 17 (some 20) (.agg (shC q.po (.slice A q.T.live.length c)).toArray) rfl rfl (fun X hX => ex_bsh q.po _ A _ c rfl rfl rfl rfl rfl rfl) (cu hq1) ?_
  simp only [Act.put, n1, n2, n3]
  refine gr (rs := [18]) (gstS (vs := shC q.po (.slice A q.T.live.length c)) (new := shC q.po (.slice A q.T.live.length c)) 18 0 48 rfl rfl (by kernel_rfl) rfl rfl rfl rfl (shC_one _ _ _ _) szS hq1 rfl (by simp [cput, shC, zeroPO, VV.cs, KK.cs, DD.cs, OB.cs, hcs, zeroD, zeroV]) (by simp [cput, shC, zeroPO, VV.cs, KK.cs, DD.cs, OB.cs, hcs, zeroD, zeroV]) (fun _ hZ => cu hZ) ?_ gn)
  intro Y2 hq2
  refine wpAnyH_done (by kernel_rfl) ?_ _
  try simp only [Act.put, n1, n2, n3]
  have SS := hide hq2
  go_wp2
  refine ret_c rwS szS rfl rfl rfl ((unhide SS).hold 0 rfl) rfl ?_
  refine ⟨A, c, by rw [show q.po.ps.length = q.T.live.length from pr_len _], ?_, (unhide SS).fr.below⟩
  show World.ownsRow _ _ _ _ (.slice A (pr q.T).length c) (pr q.T).length _
  rw [pr_len]
  exact (unhide SS).get 1 rfl
set_option maxRecDepth 100000 in
theorem shape_hh (h : HP) (j : Nat) (q : OB) (w : World) (H : h.Is w) (hl : h.l.length ≤ 65536) (hj : h.l[j]? = some q) (hlast : q.T.last < 100000) : Calls Tryz.prog 11 #[.pointer (some ⟨h.b, 0, none⟩), .int .i64 ((j : Int) + 1)] w fun e w' => ∃ A c, e = .returned (.tuple #[.agg (shC q.po (.slice A q.po.ps.length c)).toArray, .int .i64 0]) ∧ w'.ownsRow w.heap.size 53 20 (.slice A q.po.ps.length c) q.po.ps.length (flatP q.po.ps) ∧ Below w.heap.size w w' := by
  have hth := th_ok hj
  have SS := hide (Sy.nil w [])
  go_enter Tryz.func11, Tryz.ntmps11
  go_wp2_with (first | go_skip | ((with_reducible show wpList _ _ _ _ _ _); first | (refine zA 48 (shC zeroPO (.slice none 0 0)) (by rfl) rfl SS ?_; clear SS; intro Xa Ba SS; simp only [Act.put, n1, n2, n3])))
  refine (there_h h _ _ (H.on (unhide SS).fr.below)).mono ?_
  rintro _ _ ⟨rfl, rfl⟩
  rw [hth]
  go_wp2_with fail
  refine (at_h h j q _ (H.on (unhide SS).fr.below) hj hl).mono ?_
  rintro _ _ ⟨rfl, rfl⟩
  go_wp2_with fail
  refine (shape_h h j q _ (H.on (unhide SS).fr.below) hj hlast).mono ?_
  rintro _ Y ⟨A, c, rfl, hO, hb⟩
  replace SS := hide ((unhide SS).addRow hO hb (base := w.heap.size) (unhide SS).fr.size)
  clear hO hb
  go_wp2_with (first | go_skip | ((with_reducible show wpList _ _ _ _ _ _); first | (refine zS (hp := (by simp [shC, zeroPO, VV.cs])) (shC q.po (.slice A q.po.ps.length c)) 0 48 (by rfl) rfl rfl rfl rfl (shC_one _ _ _ _) szS SS rfl ?_; clear SS; intro Xz SS; simp only [Act.put, n1, n2, n3])))
  refine bodyPost_ret (res_ct rwS szS rfl rfl rfl ((unhide SS).hold 0 rfl) rfl) rfl ?_
  exact ⟨A, c, rfl, (unhide SS).get 1 rfl, (unhide SS).fr.below⟩
theorem lessOk {h : HP} (K : h.Ok) (hf : h.fuel ≠ 0) : h.less.Ok := ⟨K.len, by have := K.f0; show 0 ≤ h.fuel - 1; omega, by have := K.f1; show h.fuel - 1 ≤ _; omega, K.e0, K.e1, K.d1⟩
theorem tabOk {h : HP} (K : h.Ok) (j : Nat) (q : OB) (T : TT) : (h.tab j q T).Ok := ⟨by show (h.l.set j _).length ≤ _; rw [List.length_set]; exact K.len, K.f0, K.f1, K.e0, K.e1, K.d1⟩
theorem innOk {h : HP} (K : h.Ok) (hf : h.fuel ≠ 0) (hd : h.ent ≠ h.depth) : h.inn.Ok := ⟨K.len, by have := K.f0; show 0 ≤ h.fuel - 1; omega, by have := K.f1; show h.fuel - 1 ≤ _; omega, by have := K.e0; show 0 ≤ h.ent + 1; omega, by have := K.e1; show h.ent + 1 ≤ h.depth; omega, K.d1⟩
theorem s_this (h : HP) (B : Nat) (sf : Int) (th : VV) (ar : Value) (tg : VV) (rs : List VV) (a b d : Int) (k : KK) (v : VV) (e : DD) (x g : Bool) (w : World) (H : h.Is w) (hF : Holds w B (frC h.b sf th ar tg rs)) (hout : B ∉ h.blocks) (hl16 : rs.length = 16) (i : Nat) (hi16 : i < 16) : Calls Tryz.prog 170 #[.pointer (some ⟨B, 0, none⟩), OP.agg ⟨3, (i : Nat), a, b, d, k, v, e, x, g⟩] w fun e w' => e = .returned .nilIface ∧ FT h h B (frC h.b sf th ar tg (rs.set i th)) w w' := by
  refine (settle_ok h B sf th ar tg rs 3 a b d k v e x g i w H hF (hF.lt (frC_pos ..)) hout hi16 hl16 th (fun h1 => h1 = h) (fun X HX hX _ => ?_)).mono ?_
  · refine (do3 B h.b sf th ar tg rs (i : Nat) a b d k v e x g X hX (hX.lt (frC_pos ..))).mono ?_
    rintro _ Y ⟨rfl, hb⟩
    exact ⟨rfl, h, rfl, HP.To.refl HX hb⟩
  · rintro _ Y ⟨rfl, h1, rfl, T⟩
    exact ⟨rfl, T⟩
theorem s_const (h : HP) (B : Nat) (sf : Int) (th : VV) (ar : Value) (tg : VV) (rs : List VV) (a b d : Int) (k : KK) (v : VV) (e : DD) (x g : Bool) (w : World) (H : h.Is w) (hF : Holds w B (frC h.b sf th ar tg rs)) (hout : B ∉ h.blocks) (hl16 : rs.length = 16) (i : Nat) (hi16 : i < 16) : Calls Tryz.prog 170 #[.pointer (some ⟨B, 0, none⟩), OP.agg ⟨1, (i : Nat), a, b, d, k, v, e, x, g⟩] w fun e w' => e = .returned .nilIface ∧ FT h h B (frC h.b sf th ar tg (rs.set i v)) w w' := by
  refine (settle_ok h B sf th ar tg rs 1 a b d k v e x g i w H hF (hF.lt (frC_pos ..)) hout hi16 hl16 v (fun h1 => h1 = h) (fun X HX hX _ => ?_)).mono ?_
  · refine (do1 B h.b sf th ar tg rs (i : Nat) a b d k v e x g X hX (hX.lt (frC_pos ..))).mono ?_
    rintro _ Y ⟨rfl, hb⟩
    exact ⟨rfl, h, rfl, HP.To.refl HX hb⟩
  · rintro _ Y ⟨rfl, h1, rfl, T⟩
    exact ⟨rfl, T⟩
theorem s_get (h : HP) (B : Nat) (sf : Int) (th : VV) (ar : Value) (tg : VV) (rs : List VV) (b d : Int) (k : KK) (v : VV) (e : DD) (x g : Bool) (ia j : Nat) (q : OB) (w : World) (H : h.Is w) (hF : Holds w B (frC h.b sf th ar tg rs)) (hout : B ∉ h.blocks) (hl16 : rs.length = 16) (i : Nat) (hi16 : i < 16) (hT : Tabs w) (hE : ∀ b ∈ B :: h.blocks, 6 ≤ b) (K : h.Ok) (hj : h.l[j]? = some q) (hk : goodK k = true) (hr : (refV ((j : Int) + 1)).good = true) (hrk : knownE h.l.length [refV ((j : Int) + 1)] = 0) (hf : h.fuel ≠ 0) (hd : h.ent ≠ h.depth) (hfi : (q.T.find k).isSome = true) (h0 : (getD q.T k).g.k = 0) (hi : rs[ia]? = some (refV ((j : Int) + 1))) (ha16 : ia < 16) : Calls Tryz.prog 170 #[.pointer (some ⟨B, 0, none⟩), OP.agg ⟨10, (i : Nat), (ia : Nat), b, d, k, v, e, x, g⟩] w fun e w' => e = .returned .nilIface ∧ FT h h.less B (frC h.b sf th ar tg (rs.set i (getD q.T k).v)) w w' := by
  refine (settle_ok h B sf th ar tg rs 10 (ia : Nat) b d k v e x g i w H hF (hF.lt (frC_pos ..)) hout hi16 hl16 (getD q.T k).v (fun h1 => h1 = h.less) (fun X HX hX fr => ?_)).mono ?_
  · refine do10 h B sf th ar tg rs (i : Nat) b d k v e x g ia j X HX hX (hX.lt (frC_pos ..)) hout _ (fun h1 => h1 = h.less) (fun Y TY => ?_) hi ha16
    refine (dget_x h j q k (refV ((j : Int) + 1)) (fun h2 V er x => h2 = h.inn ∧ V = (getD q.T k).v ∧ er = .nilIface) Y TY.is (TY.tabs HX (hT.fr fr hE)) K hj hk hr hrk hf hd (fun Z TZ => ?_) ?_).mono ?_
    · refine (get_d h.inn j q k (refV ((j : Int) + 1)) Z TZ.is K.len hj (good_ok hk) hfi h0).mono ?_
      rintro _ U ⟨rfl, T⟩
      exact ⟨h.inn, _, _, noO, rfl, ⟨rfl, rfl, rfl⟩, New.none _ _ _, T⟩
    · rintro h2 V er x ⟨rfl, -, -⟩
      rfl
    · rintro _ U ⟨h2, V, er, x, rfl, ⟨rfl, rfl, rfl⟩, T⟩
      rw [inn_out] at T
      exact ⟨rfl, _, rfl, T⟩
  · rintro _ Y ⟨rfl, h1, rfl, T⟩
    exact ⟨rfl, T⟩
theorem s_def (h : HP) (B : Nat) (sf : Int) (th : VV) (ar : Value) (tg : VV) (rs : List VV) (d : Int) (k : KK) (v : VV) (g : Bool) (ia n j : Nat) (vb : VV) (q : OB) (w : World) (H : h.Is w) (hF : Holds w B (frC h.b sf th ar tg rs)) (hout : B ∉ h.blocks) (hl16 : rs.length = 16) (i : Nat) (hi16 : i < 16) (hT : Tabs w) (hE : ∀ b ∈ B :: h.blocks, 6 ≤ b) (K : h.Ok) (hj : h.l[j]? = some q) (hk : goodK k = true) (hFn : FD (getD q.T k)) (hFd : FD (dv vb)) (hlast : q.T.last < 90000) (hz : defC h j k (dv vb) = 0) (hB : appB q.x (getD q.T k) (dv vb) = true) (hf : h.fuel ≠ 0) (hd : h.ent ≠ h.depth) (hn : rs[n]? = some vb) (hn16 : n < 16) (hi : rs[ia]? = some (refV ((j : Int) + 1))) (ha16 : ia < 16) : Calls Tryz.prog 170 #[.pointer (some ⟨B, 0, none⟩), OP.agg ⟨12, (i : Nat), (ia : Nat), (n : Nat), d, k, v, zeroD, true, g⟩] w fun e w' => e = .returned .nilIface ∧ ∃ T' : TT, T'.last ≤ q.T.last + 1 ∧ pr T' = putP (pr q.T) k (appD q.x (getD q.T k) (dv vb)) ∧ FT h (h.tab j q T').less B (frC h.b sf th ar tg (rs.set i (boolV true))) w w' := by
  refine (settle_ok h B sf th ar tg rs 12 (ia : Nat) (n : Nat) d k v zeroD true g i w H hF (hF.lt (frC_pos ..)) hout hi16 hl16 (boolV true) (fun h1 => ∃ T' : TT, T'.last ≤ q.T.last + 1 ∧ pr T' = putP (pr q.T) k (appD q.x (getD q.T k) (dv vb)) ∧ h1 = (h.tab j q T').less) (fun X HX hX fr => ?_)).mono ?_
  · refine do12 h B sf th ar tg rs (i : Nat) d k v zeroD g ia j n vb X HX hX (hX.lt (frC_pos ..)) hout true _ (fun Y TY => ?_) hn hn16 hi ha16
    refine (ddef_x h j q k (dv vb) Y TY.is (TY.tabs HX (hT.fr fr hE)) K hj hk hFn hFd hlast hz hB hf hd).mono ?_
    rintro _ U ⟨T', rfl, h5, h6, T⟩
    exact ⟨rfl, _, ⟨T', h5, h6, rfl⟩, T⟩
  · rintro _ Y ⟨rfl, h1, ⟨T', h5, h6, rfl⟩, T⟩
    exact ⟨rfl, T', h5, h6, T⟩
theorem s_thr (h : HP) (B : Nat) (sf : Int) (th : VV) (ar : Value) (tg : VV) (rs : List VV) (b d : Int) (k : KK) (v : VV) (e : DD) (x : Bool) (n : Nat) (vi : VV) (w : World) (H : h.Is w) (hF : Holds w B (frC h.b sf th ar tg rs)) (hout : B ∉ h.blocks) (hl16 : rs.length = 16) (i : Nat) (hi16 : i < 16) (hn : rs[n]? = some vi) (hn16 : n < 16) : Calls Tryz.prog 170 #[.pointer (some ⟨B, 0, none⟩), OP.agg ⟨8, (i : Nat), (n : Nat), b, d, k, v, e, x, false⟩] w fun e w' => ∃ Bt, e = .returned (thrV Bt) ∧ Holds w' Bt (tcs 1 vi) ∧ w.heap.size ≤ Bt ∧ FT h h B (frC h.b sf th ar tg rs) w w' :=
  settle_thr h B sf th ar tg rs 8 (n : Nat) b d k v e x i w H hF (hF.lt (frC_pos ..)) hout hi16 hl16 vi (fun X _ hX _ => do8 B h.b sf th ar tg rs (i : Nat) b d k v e x false n vi X hX (hX.lt (frC_pos ..)) hn hn16)
theorem s_cat (h : HP) (B : Nat) (sf : Int) (th : VV) (ar : Value) (tg : VV) (rs : List VV) (b d : Int) (k : KK) (v : VV) (e : DD) (x : Bool) (n : Nat) (vi : VV) (w : World) (H : h.Is w) (hF : Holds w B (frC h.b sf th ar tg rs)) (hout : B ∉ h.blocks) (hl16 : rs.length = 16) (i : Nat) (hi16 : i < 16) (hT : Tabs w) (hE : ∀ b ∈ B :: h.blocks, 6 ≤ b) (hg : vi.good = true) (hn : rs[n]? = some vi) (hn16 : n < 16) : Calls Tryz.prog 170 #[.pointer (some ⟨B, 0, none⟩), OP.agg ⟨8, (i : Nat), (n : Nat), b, d, k, v, e, x, true⟩] w fun e w' => e = .returned .nilIface ∧ FT h h B (frC h.b sf th ar tg (rs.set i vi)) w w' :=
  settle_cau h B sf th ar tg rs 8 (n : Nat) b d k v e x i w H hF (hF.lt (frC_pos ..)) hout hi16 hl16 vi (fun X _ hX _ => do8 B h.b sf th ar tg rs (i : Nat) b d k v e x true n vi X hX (hX.lt (frC_pos ..)) hn hn16) hg hT hE
/-- A function is called, and its body runs. -/
theorem fcall_h (h : HP) (j : Nat) (q : OB) (g c : Nat) (l : List OP) (ct : Bool) (th : VV) (A : Option Addr) (n c2 : Nat) (St : Nat → HP → List VV → Prop) (Fin : HP → VV → Value → Ob → Prop) (w : World) (H : h.Is w) (hT : Tabs w) (K : h.Ok) (hj : h.l[j]? = some q) (hm : q.m = 1) (hf : h.fuel ≠ 0) (hd : h.ent ≠ h.depth) (ho : q.ow = some (81, pgV g c l ct)) (hR : ∀ B X, 6 ≤ B → Tabs X → Runs h.inn B g c ((j : Int) + 1) th (.slice A n c2) undV l X St Fin) (h0 : St 0 h.inn (rgs 16)) (hen : ∀ h2 V er x, Fin h2 V er x → h2.ent = h.ent + 1) : Calls Tryz.prog 36 #[.pointer (some ⟨h.b, 0, none⟩), .int .i64 ((j : Int) + 1), th.agg, .slice A n c2] w (EndP h (fun h3 V er x => ∃ h2, h3 = h2.out ∧ Fin h2 V er x) w) :=
  enCall_h h j q th A n c2 Fin w H K hj hm hf hd (fun X T => fncall_h h.inn j th A n c2 Fin X T.is (fun Y TY => fnrun_h h.inn j q g c l ct th A n c2 undV Fin Y TY.is K.len hj ho (fun B Z hlo hlt HZ hFZ fr => run_h h.inn B g c _ th _ undV l (rgs 16) St Fin Z (hR B Z (by have := TY.is.big; omega) (((T.trans TY).tabs H hT).fr fr TY.is.low)) h0 HZ hFZ hlt (not_old TY.is hlo)))) hen
/-! The body of awake. -/
def opT : OP := ⟨3, 0, 0, 0, 0, zeroK, zeroV, zeroD, false, false⟩
def opR (n : Int) : OP := ⟨7, 0, n, 0, 0, zeroK, zeroV, zeroD, false, false⟩
def opG (k : KK) : OP := ⟨10, 1, 0, 0, 0, k, zeroV, zeroD, false, false⟩
def bodA (k : KK) : List OP := [opT, opG k, opR 1]
def stA (h0 : HP) (V : VV) (j : Nat) (h1 : HP) (rs : List VV) : Prop := (j = 0 ∧ h0 = h1 ∧ rgs 16 = rs) ∨ (j = 1 ∧ h0.less = h1 ∧ (rgs 16).set 0 (refV 1) = rs) ∨ (j = 2 ∧ h0.less.less.less = h1 ∧ ((rgs 16).set 0 (refV 1)).set 1 V = rs)
def finA (h0 : HP) (V : VV) (h2 : HP) (V' : VV) (er : Value) (_ : Ob) : Prop := h2 = h0.less.less.less.less ∧ V' = V ∧ er = .nilIface
theorem runsA (h : HP) (B g c : Nat) (sf : Int) (ar : Value) (tg : VV) (k : KK) (q : OB) (w : World) (hB : 6 ≤ B) (hlow : ∀ b ∈ h.blocks, 6 ≤ b) (hT : Tabs w) (K : h.Ok) (hb : h.body g c (bodA k)) (hf : 4 ≤ h.fuel) (hd : h.ent ≠ h.depth) (hj : h.l[0]? = some q) (hk : goodK k = true) (hrk : knownE h.l.length [refV 1] = 0) (hfi : (q.T.find k).isSome = true) (h0 : (getD q.T k).g.k = 0) : Runs h B g c sf (refV 1) ar tg (bodA k) w (stA h (getD q.T k).v) (finA h (getD q.T k).v) := by
  have f0 : h.fuel ≠ 0 := by omega
  have f1 : h.less.fuel ≠ 0 := by show h.fuel - 1 ≠ 0; omega
  have f2 : h.less.less.fuel ≠ 0 := by show h.fuel - 1 - 1 ≠ 0; omega
  have f3 : h.less.less.less.fuel ≠ 0 := by show h.fuel - 1 - 1 - 1 ≠ 0; omega
  have hE : ∀ b ∈ B :: h.blocks, 6 ≤ b := fun b hb => (List.mem_cons.1 hb).elim (fun e => e ▸ hB) (hlow b)
  refine ⟨?_, ?_, ?_, ?_, ?_⟩
  · rintro j h1 rs (⟨rfl, rfl, rfl⟩ | ⟨rfl, rfl, rfl⟩ | ⟨rfl, rfl, rfl⟩)
    · exact ⟨by show _ < 3; decide, f0, K, hb, rfl⟩
    · exact ⟨by show _ < 3; decide, f1, lessOk K f0, hb, rfl⟩
    · exact ⟨by show _ < 3; decide, f3, lessOk (lessOk (lessOk K f0) f1) f2, hb, rfl⟩
  · rintro j o h1 rs X ho hc (⟨rfl, rfl, rfl⟩ | ⟨rfl, rfl, rfl⟩ | ⟨rfl, rfl, rfl⟩) HX hF hout hfr
    · obtain rfl : opT = o := Option.some.inj ho
      refine (s_this h.less B sf (refV 1) ar tg (rgs 16) 0 0 0 zeroK zeroV zeroD false false X HX hF hout rfl 0 (by decide)).mono ?_
      rintro _ Y ⟨rfl, T⟩
      exact .inl ⟨_, _, rfl, .inr (.inl ⟨rfl, rfl, rfl⟩), T⟩
    · obtain rfl : opG k = o := Option.some.inj ho
      refine (s_get h.less.less B sf (refV 1) ar tg ((rgs 16).set 0 (refV 1)) 0 0 k zeroV zeroD false false 0 0 q X HX hF hout rfl 1 (by decide) (hT.fr hfr hE) hE (lessOk (lessOk K f0) f1) hj hk (ref_good (by decide) (by decide)) hrk f2 hd hfi h0 rfl (by decide)).mono ?_
      rintro _ Y ⟨rfl, T⟩
      exact .inl ⟨_, _, rfl, .inr (.inr ⟨rfl, rfl, rfl⟩), T⟩
    · obtain rfl : opR 1 = o := Option.some.inj ho
      exact absurd rfl hc
  · rintro j o h1 rs ho hc (⟨rfl, rfl, rfl⟩ | ⟨rfl, rfl, rfl⟩ | ⟨rfl, rfl, rfl⟩)
    · obtain rfl : opT = o := Option.some.inj ho
      exact absurd hc (by decide)
    · obtain rfl : opG k = o := Option.some.inj ho
      exact absurd hc (by show ¬ (10 : Int) = 7; decide)
    · obtain rfl : opR 1 = o := Option.some.inj ho
      exact ⟨1, _, rfl, by decide, rfl, rfl, rfl, rfl⟩
  · intro o ho
    rcases List.mem_cons.1 ho with rfl | ho
    · decide
    rcases List.mem_cons.1 ho with rfl | ho
    · show ¬ (10 : Int) = 9
      decide
    rcases List.mem_cons.1 ho with rfl | ho
    · decide
    · cases ho
  · show 3 ≤ 256
    decide
