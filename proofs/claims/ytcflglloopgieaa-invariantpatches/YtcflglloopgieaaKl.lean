import Derived.Test.YtcflglloopgieaaKk
namespace Go.Proofs.Ytcflglloopgieaa
open Go Go.Proofs Go.Maps Go.RowKit FM
set_option linter.unusedSimpArgs false
set_option linter.unusedVariables false
set_option maxHeartbeats 1000000
theorem DP.cs1 {w X Y : World} {B k : Nat} {d : DR} {x : RX} (h : DP w X B k d { d with rx := some x } Y) : Holds Y B (d.s.cs d.A d.cap ++ [x.v, .map (some x.mb)]) := h.di.hold
/-- The draft's parts side by side, behind a call of index, beside the boxes of the caller. -/
theorem index_then {w X Z Y : World} {B k : Nat} {d : DR} {x : RX} {L : List Ob} (hS : Sy X Z (d.bs B) (drO w B k d :: L)) (h : DP w Z B k d { d with rx := some x } Y) :
    Sy X Y (d.bs B) (boxO B (d.s.cs d.A d.cap ++ [x.v, .map (some x.mb)]) :: rowO w.heap.size 74 22 x.v x.rs.length (flatR x.rs) :: mapO x.mb x.n x.sz x.F :: L) := by
  have h1 : Sy X Y (d.bs B) (drO w B k { d with rx := some x } :: L) := hS.set 0 rfl (drO_ok _ _ _ _) h.di h.fr h.new
  have r := h.di.rows x rfl
  have hbs : (drO w B k { d with rx := some x }).bs = B :: (x.v.ownBlock.toList ++ [x.mb]) := rfl
  have hrest := h1.dis
  rw [List.pairwise_cons] at hrest
  obtain ⟨d1, d2⟩ := hrest
  have lo := h1.lo _ (List.mem_cons_self ..)
  rw [hbs] at lo
  have far : ∀ o ∈ L, ∀ b ∈ B :: (x.v.ownBlock.toList ++ [x.mb]), b ∉ o.bs := fun o ho b hb => d1 o ho b hb
  refine ⟨h1.fr, ?_, ?_, ?_, ?_⟩
  · intro o ho
    rcases List.mem_cons.1 ho with rfl | ho
    · exact boxO_ok _ _
    · rcases List.mem_cons.1 ho with rfl | ho
      · exact rowO_ok _ _ _ _ _ _
      · rcases List.mem_cons.1 ho with rfl | ho
        · exact mapO_ok _ _ _ _
        · exact h1.ok o (List.mem_cons_of_mem _ ho)
  · intro o ho
    rcases List.mem_cons.1 ho with rfl | ho
    · exact ⟨h.cs1, by simp [SH.cs]⟩
    · rcases List.mem_cons.1 ho with rfl | ho
      · exact r.own
      · rcases List.mem_cons.1 ho with rfl | ho
        · exact r.map
        · exact h1.ho o (List.mem_cons_of_mem _ ho)
  · intro o ho b hb
    rcases List.mem_cons.1 ho with rfl | ho
    · exact lo b (by rw [List.mem_singleton.1 hb]; simp)
    · rcases List.mem_cons.1 ho with rfl | ho
      · exact lo b (List.mem_cons_of_mem _ (List.mem_append_left _ hb))
      · rcases List.mem_cons.1 ho with rfl | ho
        · exact lo b (List.mem_cons_of_mem _ (List.mem_append_right _ hb))
        · exact h1.lo o (List.mem_cons_of_mem _ ho) b hb
  · have a1 := r.a1
    have a2 := r.a2
    have a3 := r.a3
    rw [List.pairwise_cons, List.pairwise_cons, List.pairwise_cons]
    refine ⟨fun o ho b hb => ?_, fun o ho b hb => ?_, fun o ho b hb => ?_, d2⟩
    · have e : b = B := List.mem_singleton.1 hb
      subst e
      rcases List.mem_cons.1 ho with rfl | ho
      · exact fun hm => a1 (by simpa [rowO] using hm)
      · rcases List.mem_cons.1 ho with rfl | ho
        · exact fun hm => a3 (List.mem_singleton.1 hm).symm
        · exact far o ho b (List.mem_cons_self ..)
    · have hb' : x.v.ownBlock = some b := by simpa [rowO] using hb
      rcases List.mem_cons.1 ho with rfl | ho
      · exact fun hm => a2 (by rw [hb', List.mem_singleton.1 hm])
      · exact far o ho b (List.mem_cons_of_mem _ (List.mem_append_left _ hb))
    · exact far o ho b (List.mem_cons_of_mem _ (List.mem_append_right _ hb))
theorem DI.sy {w X : World} {B k : Nat} {d : DR} (h : DI w X B k d) : Sy X X (d.bs B) [drO w B k d] :=
  ⟨Fr.refl _ _, by simp [drO_ok], by simpa [drO] using h, by simp [drO]; exact fun b hb => .inl hb, by simp⟩

theorem ex_lookV {o : Oper} {a : Act} {w : World} {m x : Operand} {b n sz : Nat} {F : KK → Option Nat} {k : KK} {v : Int} (ho : o.op = .lookup 62 m x false) (hm : a.eval m = .map (some b)) (hx : a.eval x = k.agg) (h : MapI w b n sz F) (hk : OkK k) (hv : nz (F k) = v) : (execOp a.eval o).run Try.prog w = .ok (.value (.int .i64 v)) w := hv ▸ ex_look1 ho hm hx h hk rfl
theorem bRw0 (p : PR) (w : World) : (Instr.build 74 #[(0, .agg p.cs.toArray)]).run Try.prog w = .ok (.agg (RW.cs ⟨p, 0, false⟩).toArray) w := by kernel_rfl
theorem ex_bRw0 {o : Oper} {a : Act} {w : World} {x0 : Operand} (p : PR) (ho : o.op = .build 74 #[(0, x0)]) (h0 : a.eval x0 = .agg p.cs.toArray) : (execOp a.eval o).run Try.prog w = .ok (.value (.agg (RW.cs ⟨p, 0, false⟩).toArray)) w := by
  have e := bRw0 p w
  unfold execOp
  simp only [ho, List.map_toArray, List.map_cons, List.map_nil, h0]
  simp [e]
theorem own_nx {W : World} {base n g c j q : Nat} {l : List RW} {r : RW} (h : W.ownsRow base 74 22 (.slice (some ⟨g, 0, none⟩) n c) n (flatR l)) (hn : l.length = n) (hj : l[j]? = some r) (hq : q = 0 + j * 22) : W.cell? ⟨g, q + 20, none⟩ = some (.int .i64 (r.nx : Nat)) := by
  obtain ⟨g', c', e, _, h2, _⟩ := own_at h hn hj
  cases e
  subst hq
  exact h2 20 _ rfl
theorem ex_indexQ {o : Oper} {a : Act} {w : World} {x ix : Operand} {g off n cap q : Nat} (t : TypeId) (sz j : Nat) (hk : Try.prog.underlying t = some (.slice (Try.prog.elem t))) (he : ∀ w, (sizeOf (Try.prog.elem t)).run Try.prog w = .ok sz w) (ho : o.op = .indexAddr t x ix) (hx : a.eval x = .slice (some ⟨g, off, none⟩) n cap) (hix : a.eval ix = .int .i64 (j : Nat)) (hj : j < n) (hq : q = off + j * sz) : (execOp a.eval o).run Try.prog w = .ok (.value (.pointer (some ⟨g, q, none⟩))) w := hq ▸ ex_indexG t sz j hk he ho hx hix hj
def TkPost (w X : World) (B k : Nat) (d : DR) (r : Option SH) (e : Ending) (Y : World) : Prop := ∃ (b : Bool) (d' : DR), e = .returned (.bool b) ∧ DP w X B (k + 1) d d' Y ∧ (b = true → r = some d'.abs) ∧ (b = false → r = none)
def PuPost (w X : World) (B k : Nat) (d : DR) (r : SH) (e : Ending) (Y : World) : Prop := ∃ d' : DR, e = .returned (.tuple #[]) ∧ DP w X B (k + 1) d d' Y ∧ d'.abs = r
theorem DP.mono {w X Y : World} {B k k' : Nat} {d d' : DR} (h : DP w X B k d d' Y) (hk : k ≤ k') : DP w X B k' d d' Y := ⟨h.di.mono hk, h.fr, h.new⟩
theorem flatR_snoc (l : List RW) (r : RW) : flatR (l ++ [r]) = flatR l ++ r.cs := by simp [flatR]
set_option maxHeartbeats 4000000 in
set_option maxRecDepth 100000 in
theorem remove_any (q : KK) (d : DR) (B k : Nat) (w X : World) (hf : Fr w X []) (hd : DI w X B k d) (hk : 400 ≤ k) (hkb : k ≤ 500000) (hq : OkK q ∧ q.s.size ≤ 281474976710656) : Calls Try.prog 23 #[.pointer (some ⟨B, 0, none⟩), q.agg] X (TkPost w X B k d ((delP q d.abs.ps).map (fun ps => { d.abs with ps := ps }))) := by
  have HF := hide hf
  have HD := hide hd
  have HK := hide hk
  have HKB := hide hkb
  have HQ := hide hq
  have LL := hide hd.sy
  clear hf hd hk hq hkb
  rw [kagg]
  go_enter Try.func23, Try.ntmps23
  go_wp2_with (first | go_skip | ((with_reducible show wpList _ _ _ _ _ _); first | ((refine bxS 30 (q.cs) (by rfl) rfl rfl rfl (Nat.succ_pos _) (unhide LL) ?_); intro X3 B3 hE3 L3 hb3; replace LL := hide L3; clear L3 hb3 hE3; simp only [Act.put, List.setIfInBounds_toArray, List.set_cons_succ, List.set_cons_zero])))
  have hix := index_any d B k w _ ((unhide HF).trans (unhide LL).fr (fun b hb => .inr ((unhide HD).base b hb))) ((unhide LL).get 0 rfl) (unhide HK)
  refine hix.mono ?_
  clear hix
  rintro e Y1 ⟨x, rfl, hDP, hlv⟩
  have hS := index_then (unhide LL) hDP
  have hxr := hDP.di.rows x rfl
  obtain ⟨v, rs, mb, nn, sz, F⟩ := x
  dsimp only at hxr hlv hS
  have HRI := hide hxr.ri
  have HGR := hide hxr.gr
  have HLN := hide hxr.len
  have HNN := hide hxr.nn
  have HLV := hide hlv
  have HDI := hide (And.intro hDP.di.rd hDP.di.gd)
  replace LL := hide hS
  clear hDP hlv hS hxr
  generalize hm : (F q).getD 0 = m at *
  have hnz : nz (F q) = (m : Int) := by rw [nz_getD, hm]
  cases m with
  | zero =>
    have hcal := hide hnz
    clear hnz
    go_wp2_with fail
    have hnz := unhide hcal
    have ht0 : Sy X _ (d.bs B) [boxO B (d.s.cs d.A d.cap ++ [v, .map (some mb)]), rowO w.heap.size 74 22 v rs.length (flatR rs), mapO mb nn sz F, boxO B3 q.cs] := (unhide LL).drew
    refine wp_region_held_drew (P := Try.prog) (S := fun Z => Sy X Z (d.bs B) [boxO B (d.s.cs d.A d.cap ++ [v, .map (some mb)]), rowO w.heap.size 74 22 v rs.length (flatR rs), mapO mb nn sz F, boxO B3 q.cs]) (by kernel_rfl) ht0 (fun hS0 => ?_)
    refine gsem 0 (some 9) (.pointer (some ⟨B, 0, none⟩)) rfl (by kernel_rfl) (by kernel_rfl) (by kernel_rfl) (fun _ _ _ h => h) (by kernel_rfl) (by kernel_rfl) (fun _ _ => by kernel_rfl) ht0 ?_
    simp only [Act.put, List.setIfInBounds_toArray, List.set_cons_succ, List.set_cons_zero]
    refine gsem 1 (some 10) (.pointer (some ⟨B, 0, none⟩)) rfl (by kernel_rfl) (by kernel_rfl) (by kernel_rfl) (fun _ _ _ h => h) (by kernel_rfl) (by kernel_rfl) (fun _ _ => by kernel_rfl) ht0 ?_
    simp only [Act.put, List.setIfInBounds_toArray, List.set_cons_succ, List.set_cons_zero]
    refine gsem 2 (some 11) (.pointer (some ⟨B, 9, none⟩)) rfl (by kernel_rfl) (by kernel_rfl) (by kernel_rfl) (fun _ _ _ h => h) (by kernel_rfl) (by kernel_rfl) (fun _ _ => by kernel_rfl) ht0 ?_
    simp only [Act.put, List.setIfInBounds_toArray, List.set_cons_succ, List.set_cons_zero]
    refine gsem 3 (some 12) (.map (some mb)) rfl (by kernel_rfl) (by kernel_rfl) (by kernel_rfl) (fun _ _ _ h => h) (by kernel_rfl) (by kernel_rfl) (fun X hX => ex_load1 62 Try.isAgg62 rfl rfl (hX.hold 0 rfl) rfl) ht0 ?_
    simp only [Act.put, List.setIfInBounds_toArray, List.set_cons_succ, List.set_cons_zero]
    refine gsem 4 (some 13) (.agg q.cs.toArray) rfl (by kernel_rfl) (by kernel_rfl) (by kernel_rfl) (fun _ _ _ h => h) (by kernel_rfl) (by kernel_rfl) (fun X hX => ex_loadN (vs := q.cs) 30 2 rwK szK rfl rfl (hX.hold (b := B3) (cs := q.cs) 3 rfl) rfl rfl) ht0 ?_
    simp only [Act.put, List.setIfInBounds_toArray, List.set_cons_succ, List.set_cons_zero]
    refine gsem 5 (some 14) (.int .i64 0) rfl (by kernel_rfl) (by kernel_rfl) (by kernel_rfl) (fun _ _ _ h => h) (by kernel_rfl) (by kernel_rfl) (fun X hX => ex_lookV rfl rfl rfl (hX.get 2 rfl) (unhide HQ).1 hnz) ht0 ?_
    simp only [Act.put, List.setIfInBounds_toArray, List.set_cons_succ, List.set_cons_zero]
    refine gsem 6 (some 5) (.int .i64 0) rfl (by kernel_rfl) (by kernel_rfl) (by kernel_rfl) (fun _ _ _ h => h) (by kernel_rfl) (by kernel_rfl) (fun _ _ => by kernel_rfl) ht0 ?_
    simp only [Act.put, List.setIfInBounds_toArray, List.set_cons_succ, List.set_cons_zero]
    refine wpAnyH_done (by kernel_rfl) ?_ _
    try simp only [Act.put, List.setIfInBounds_toArray, List.set_cons_succ, List.set_cons_zero]
    replace LL := hide ht0
    clear ht0 hS0 hnz hcal
    go_wp2_with (first | go_skip | ((with_reducible show wpList _ _ _ _ _ _); first | ((refine rd (by rfl) (ex_load1 62 Try.isAgg62 rfl rfl ((unhide LL).hold 0 rfl) rfl) ?_); simp only [Act.put, List.setIfInBounds_toArray, List.set_cons_succ, List.set_cons_zero]) | ((refine rd (by rfl) (ex_load1 61 Try.isAgg61 rfl rfl ((unhide LL).hold 0 rfl) rfl) ?_); simp only [Act.put, List.setIfInBounds_toArray, List.set_cons_succ, List.set_cons_zero])))
    go_ret
    have h1 := (unhide HRI).del_none hm
    rw [unhide HLV] at h1
    refine ⟨false, { d with rx := some ⟨v, rs, mb, nn, sz, F⟩ }, rfl, ?_, by simp, fun _ => by rw [h1]; rfl⟩
    exact DI.end1 (x' := ⟨v, rs, mb, nn, sz, F⟩) (unhide HD).base (unhide HF) (unhide LL) rfl (unhide HDI).1 (unhide HDI).2 (unhide HRI) (unhide HGR) (by have := unhide HLN; dsimp only; omega) (by have := unhide HNN; dsimp only; omega)
  | succ m =>
    obtain ⟨r, hr, hrg, hrk, _⟩ := (unhide HRI).first hm
    have hrl := (List.getElem?_eq_some_iff.1 hr).1
    obtain ⟨g, c, rfl, hgl, _, _⟩ := own_at ((unhide LL).get 1 rfl) rfl hr
    have HDEL := hide ((unhide HRI).del hm hr)
    have HR := hide hr
    have HLT := hide hrl
    have HMB : Hid (m ≤ 1000000000) := hide (by have := unhide HLN; have := unhide HKB; omega)
    obtain ⟨q0, hq0⟩ : ∃ q0 : Nat, q0 = 0 + m * 22 := ⟨_, rfl⟩
    have HQ0 := hide hq0
    have hcal := hide hnz
    clear hnz hr hrg hrk hrl hgl hq0
    go_wp2_with fail
    have hnz := unhide hcal
    have ht0 : Sy X _ (d.bs B) [boxO B (d.s.cs d.A d.cap ++ [.slice (some ⟨g, 0, none⟩) rs.length c, .map (some mb)]), rowO w.heap.size 74 22 (.slice (some ⟨g, 0, none⟩) rs.length c) rs.length (flatR rs), mapO mb nn sz F, boxO B3 q.cs] := (unhide LL).drew
    refine wp_region_held_drew (P := Try.prog) (S := fun Z => Sy X Z (d.bs B) [boxO B (d.s.cs d.A d.cap ++ [.slice (some ⟨g, 0, none⟩) rs.length c, .map (some mb)]), rowO w.heap.size 74 22 (.slice (some ⟨g, 0, none⟩) rs.length c) rs.length (flatR rs), mapO mb nn sz F, boxO B3 q.cs]) (by kernel_rfl) ht0 (fun hS0 => ?_)
    refine gsem 0 (some 9) (.pointer (some ⟨B, 0, none⟩)) rfl (by kernel_rfl) (by kernel_rfl) (by kernel_rfl) (fun _ _ _ h => h) (by kernel_rfl) (by kernel_rfl) (fun _ _ => by kernel_rfl) ht0 ?_
    simp only [Act.put, List.setIfInBounds_toArray, List.set_cons_succ, List.set_cons_zero]
    refine gsem 1 (some 10) (.pointer (some ⟨B, 0, none⟩)) rfl (by kernel_rfl) (by kernel_rfl) (by kernel_rfl) (fun _ _ _ h => h) (by kernel_rfl) (by kernel_rfl) (fun _ _ => by kernel_rfl) ht0 ?_
    simp only [Act.put, List.setIfInBounds_toArray, List.set_cons_succ, List.set_cons_zero]
    refine gsem 2 (some 11) (.pointer (some ⟨B, 9, none⟩)) rfl (by kernel_rfl) (by kernel_rfl) (by kernel_rfl) (fun _ _ _ h => h) (by kernel_rfl) (by kernel_rfl) (fun _ _ => by kernel_rfl) ht0 ?_
    simp only [Act.put, List.setIfInBounds_toArray, List.set_cons_succ, List.set_cons_zero]
    refine gsem 3 (some 12) (.map (some mb)) rfl (by kernel_rfl) (by kernel_rfl) (by kernel_rfl) (fun _ _ _ h => h) (by kernel_rfl) (by kernel_rfl) (fun X hX => ex_load1 62 Try.isAgg62 rfl rfl (hX.hold 0 rfl) rfl) ht0 ?_
    simp only [Act.put, List.setIfInBounds_toArray, List.set_cons_succ, List.set_cons_zero]
    refine gsem 4 (some 13) (.agg q.cs.toArray) rfl (by kernel_rfl) (by kernel_rfl) (by kernel_rfl) (fun _ _ _ h => h) (by kernel_rfl) (by kernel_rfl) (fun X hX => ex_loadN (vs := q.cs) 30 2 rwK szK rfl rfl (hX.hold (b := B3) (cs := q.cs) 3 rfl) rfl rfl) ht0 ?_
    simp only [Act.put, List.setIfInBounds_toArray, List.set_cons_succ, List.set_cons_zero]
    refine gsem 5 (some 14) (.int .i64 ((m + 1 : Nat) : Int)) rfl (by kernel_rfl) (by kernel_rfl) (by kernel_rfl) (fun _ _ _ h => h) (by kernel_rfl) (by kernel_rfl) (fun X hX => ex_lookV rfl rfl rfl (hX.get 2 rfl) (unhide HQ).1 hnz) ht0 ?_
    simp only [Act.put, List.setIfInBounds_toArray, List.set_cons_succ, List.set_cons_zero]
    refine gsem 6 (some 5) (.int .i64 ((m + 1 : Nat) : Int)) rfl (by kernel_rfl) (by kernel_rfl) (by kernel_rfl) (fun _ _ _ h => h) (by kernel_rfl) (by kernel_rfl) (fun _ _ => by kernel_rfl) ht0 ?_
    simp only [Act.put, List.setIfInBounds_toArray, List.set_cons_succ, List.set_cons_zero]
    refine wpAnyH_done (by kernel_rfl) ?_ _
    try simp only [Act.put, List.setIfInBounds_toArray, List.set_cons_succ, List.set_cons_zero]
    replace LL := hide ht0
    clear ht0 hS0 hnz hcal
    have dne : decide (((m + 1 : Nat) : Int) = 0) = false := decide_eq_false (by omega)
    go_wp2_with (first | go_skip | ((with_reducible show wpList _ _ _ _ _ _); first | ((refine rd (by rfl) (ex_load1 62 Try.isAgg62 rfl rfl ((unhide LL).hold 0 rfl) rfl) ?_); simp only [Act.put, List.setIfInBounds_toArray, List.set_cons_succ, List.set_cons_zero]) | ((refine rd (by rfl) (ex_load1 61 Try.isAgg61 rfl rfl ((unhide LL).hold 0 rfl) rfl) ?_); simp only [Act.put, List.setIfInBounds_toArray, List.set_cons_succ, List.set_cons_zero]) | ((refine rd (by rfl) (ex_eqI2 rfl rfl rfl (by simp; omega)) ?_); simp only [Act.put, List.setIfInBounds_toArray, List.set_cons_succ, List.set_cons_zero]) | ((refine rd (by rfl) (ex_subN m rfl rfl rfl (unhide HMB)) ?_); simp only [Act.put, List.setIfInBounds_toArray, List.set_cons_succ, List.set_cons_zero]) | ((refine rd (by rfl) (ex_indexQ (q := q0) 61 22 m unWs idWs rfl rfl rfl (unhide HLT) (unhide HQ0)) ?_); simp only [Act.put, List.setIfInBounds_toArray, List.set_cons_succ, List.set_cons_zero]) | ((refine stR (r' := ⟨r.p, r.nx, true⟩) (p := 21) (j := m) (vs := [.bool true]) 1 4 (by rfl) rfl rfl rfl rfl (by simp [Value.oneCell']) szB (unhide LL) rfl rfl (unhide HR) (by decide) rfl (by have := unhide HQ0; omega) ?_); intro X6 L6 hf6 hs6; replace LL := hide L6; clear L6 hf6 hs6; simp only [Act.put, List.setIfInBounds_toArray, List.set_cons_succ, List.set_cons_zero])))
    have ht0 : Sy X _ (d.bs B) [boxO B (d.s.cs d.A d.cap ++ [.slice (some ⟨g, 0, none⟩) rs.length c, .map (some mb)]), rowO w.heap.size 74 22 (.slice (some ⟨g, 0, none⟩) rs.length c) rs.length (flatR (rs.set m ⟨r.p, r.nx, true⟩)), mapO mb nn sz F, boxO B3 q.cs] := (unhide LL).drew
    have hset : (rs.set m ⟨r.p, r.nx, true⟩)[m]? = some ⟨r.p, r.nx, true⟩ := List.getElem?_set_self (unhide HLT)
    have hsl : (rs.set m ⟨r.p, r.nx, true⟩).length = rs.length := List.length_set
    have hh0 := And.intro (ht0.hold 0 rfl) (And.intro (ht0.hold 3 rfl) (own_nx (r := ⟨r.p, r.nx, true⟩) (ht0.get 1 rfl) hsl hset (unhide HQ0)))
    refine wp_region_held_drew (P := Try.prog) (S := fun Z => Holds Z B (d.s.cs d.A d.cap ++ [.slice (some ⟨g, 0, none⟩) rs.length c, .map (some mb)]) ∧ Holds Z B3 q.cs ∧ Z.cell? ⟨g, q0 + 20, none⟩ = some (.int .i64 (r.nx : Nat))) (by kernel_rfl) hh0 (fun hS0 => ?_)
    refine gsem 0 (some 27) (.pointer (some ⟨B, 0, none⟩)) rfl (by kernel_rfl) (by kernel_rfl) (by kernel_rfl) (fun _ _ _ h => h) (by kernel_rfl) (by kernel_rfl) (fun _ _ => by kernel_rfl) hh0 ?_
    simp only [Act.put, List.setIfInBounds_toArray, List.set_cons_succ, List.set_cons_zero]
    refine gsem 1 (some 28) (.pointer (some ⟨B, 0, none⟩)) rfl (by kernel_rfl) (by kernel_rfl) (by kernel_rfl) (fun _ _ _ h => h) (by kernel_rfl) (by kernel_rfl) (fun _ _ => by kernel_rfl) hh0 ?_
    simp only [Act.put, List.setIfInBounds_toArray, List.set_cons_succ, List.set_cons_zero]
    refine gsem 2 (some 29) (.pointer (some ⟨B, 9, none⟩)) rfl (by kernel_rfl) (by kernel_rfl) (by kernel_rfl) (fun _ _ _ h => h) (by kernel_rfl) (by kernel_rfl) (fun _ _ => by kernel_rfl) hh0 ?_
    simp only [Act.put, List.setIfInBounds_toArray, List.set_cons_succ, List.set_cons_zero]
    refine gsem 3 (some 30) (.map (some mb)) rfl (by kernel_rfl) (by kernel_rfl) (by kernel_rfl) (fun _ _ _ h => h) (by kernel_rfl) (by kernel_rfl) (fun X hX => ex_load1 62 Try.isAgg62 rfl rfl (hX.1) rfl) hh0 ?_
    simp only [Act.put, List.setIfInBounds_toArray, List.set_cons_succ, List.set_cons_zero]
    refine gsem 4 (some 31) (.agg q.cs.toArray) rfl (by kernel_rfl) (by kernel_rfl) (by kernel_rfl) (fun _ _ _ h => h) (by kernel_rfl) (by kernel_rfl) (fun X hX => ex_loadN (vs := q.cs) 30 2 rwK szK rfl rfl (hX.2.1) rfl rfl) hh0 ?_
    simp only [Act.put, List.setIfInBounds_toArray, List.set_cons_succ, List.set_cons_zero]
    refine gsem 5 (some 32) (.pointer (some ⟨g, q0, none⟩)) rfl (by kernel_rfl) (by kernel_rfl) (by kernel_rfl) (fun _ _ _ h => h) (by kernel_rfl) (by kernel_rfl) (fun _ _ => by kernel_rfl) hh0 ?_
    simp only [Act.put, List.setIfInBounds_toArray, List.set_cons_succ, List.set_cons_zero]
    refine gsem 6 (some 33) (.pointer (some ⟨g, q0, none⟩)) rfl (by kernel_rfl) (by kernel_rfl) (by kernel_rfl) (fun _ _ _ h => h) (by kernel_rfl) (by kernel_rfl) (fun _ _ => by kernel_rfl) hh0 ?_
    simp only [Act.put, List.setIfInBounds_toArray, List.set_cons_succ, List.set_cons_zero]
    refine gsem 7 (some 34) (.pointer (some ⟨g, q0 + 20, none⟩)) rfl (by kernel_rfl) (by kernel_rfl) (by kernel_rfl) (fun _ _ _ h => h) (by kernel_rfl) (by kernel_rfl) (fun _ _ => by kernel_rfl) hh0 ?_
    simp only [Act.put, List.setIfInBounds_toArray, List.set_cons_succ, List.set_cons_zero]
    refine gsem 8 (some 35) (.int .i64 (r.nx : Nat)) rfl (by kernel_rfl) (by kernel_rfl) (by kernel_rfl) (fun _ _ _ h => h) (by kernel_rfl) (by kernel_rfl) (fun X hX => ex_loadC 3 Try.isAgg3 rfl rfl hX.2.2) hh0 ?_
    simp only [Act.put, List.setIfInBounds_toArray, List.set_cons_succ, List.set_cons_zero]
    obtain ⟨W8, hW8, hM8, hf8⟩ := MapI.store (ht0.get 2 rfl) (k := q) (unhide HQ).1 (by have := unhide HNN; have := unhide HKB; unfold maxLen; omega) r.nx
    have ht3 := ht0.mput 2 rfl hM8 (Fr.grown hf8.grown)
    refine wpAnyH_ready (rs := [9]) (by kernel_rfl) (by simp) (gskp 9 none rfl (by kernel_rfl) (by kernel_rfl) (ex_upd rfl rfl rfl rfl hW8) (And.intro (ht3.hold 0 rfl) (And.intro (ht3.hold 3 rfl) (own_nx (r := ⟨r.p, r.nx, true⟩) (ht3.get 1 rfl) hsl hset (unhide HQ0)))) ?_ AllReadyH.nil)
    simp only [Act.put, List.setIfInBounds_toArray, List.set_cons_succ, List.set_cons_zero]
    refine wpAnyH_done (by kernel_rfl) ?_ _
    try simp only [Act.put, List.setIfInBounds_toArray, List.set_cons_succ, List.set_cons_zero]
    replace LL := hide ht3
    clear ht0 ht3 hh0 hS0 hW8 hM8 hf8 dne
    go_wp2_with fail
    go_ret
    obtain ⟨h1, h2⟩ := unhide HDEL
    rw [unhide HLV] at h2
    refine ⟨true, { d with rx := some ⟨.slice (some ⟨g, 0, none⟩) rs.length c, rs.set m ⟨r.p, r.nx, true⟩, mb, nn + 1, if (F q).isSome then sz else sz + 1, putF F q r.nx⟩ }, rfl, ?_, fun _ => by rw [h2]; rfl, by simp⟩
    refine DI.end1 (M := [boxO B3 q.cs]) (x' := ⟨.slice (some ⟨g, 0, none⟩) rs.length c, rs.set m ⟨r.p, r.nx, true⟩, mb, nn + 1, if (F q).isSome then sz else sz + 1, putF F q r.nx⟩) (unhide HD).base (unhide HF) ?_ rfl (unhide HDI).1 (unhide HDI).2 h1 (fun y hy => ?_) (by have := unhide HLN; dsimp only; rw [hsl]; omega) (by have := unhide HNN; dsimp only; omega)
    · dsimp only
      rw [hsl]
      exact unhide LL
    · rcases List.mem_or_eq_of_mem_set hy with hy | rfl
      · exact (unhide HGR) y hy
      · exact (unhide HGR) r (List.mem_of_getElem? (unhide HR))
end Go.Proofs.Ytcflglloopgieaa
