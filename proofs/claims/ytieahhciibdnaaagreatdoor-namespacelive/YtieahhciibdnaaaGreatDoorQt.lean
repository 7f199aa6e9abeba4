import Derived.Test.YtieahhciibdnaaaGreatDoorQs
set_option linter.all false
namespace Go.Proofs.YtieahhciibdnaaaGreatDoor
set_option maxRecDepth 100000
set_option maxHeartbeats 0
section
open Go Go.Proofs Go.RowKit FM Tryz
def Kr (w:World) (b:Nat) (l:List (Nat×PB)) (X:World):Prop:= ∃r,Kp w X ((b, .D r)::l)
theorem Kr.on {w X X1:World} {b:Nat} {l:List (Nat×PB)} (h:Kr w b l X) (hb:Below X.heap.size X X1):Kr w b l X1:=by
 obtain⟨r,hr⟩:=h
 exact⟨r,hr.on hb⟩
theorem Kp.of3 {w X:World} {p p2 p3:PB} (h:Lie w X [p,p2,p3]):Kp w X [(w.heap.size+2,p3),(w.heap.size,p),(w.heap.size+1,p2)]:=
 ⟨h.below,fun q hq=>by
  have hs:=h.size
  simp at hs hq
  rcases hq with rfl|rfl|rfl
  ·exact⟨Nat.le_add_right _ _,by show w.heap.size+2<X.heap.size;omega,h.holds.2.2.1⟩
  ·exact⟨Nat.le_refl _,by show w.heap.size<X.heap.size;omega,h.holds.1⟩
  ·exact⟨Nat.le_succ _,by show w.heap.size+1<X.heap.size;omega,h.holds.2.1⟩,by simp⟩
section
variable {md : Region.Mode} {ops : Array Oper} {Q : Exit → Act → World → Prop} {w0 w : World} {l : List (Nat × PB)} {rb : Nat} {fuel : Nat} {listed : Array Bool} {a : Act} {o : Oper}
theorem Gh (i:Nat) (dst:Option Tmp) (v:Value) (hi:ops[i]? =some o) (hs:Region.noSelect ops=true) (hf:Region.free md ops listed i=true) (hr:(Region.ready md ops listed).contains i=true)
  (hQ: ∀c a w,Q (.panic c) (a.put dst v) w->Q (.panic c) a w) (hd:o.dst=dst) (hy:YieldsIf prog ops (Kr w0 rb l) o v a)
  (hS:Kr w0 rb l w) (h:wpAnyH prog md ops Q (Kr w0 rb l) fuel (listed.setIfInBounds i true) (a.put dst v) w):wpAnyH prog md ops Q (Kr w0 rb l) (fuel+1) listed a w:=by
 subst hd
 exact wpAnyH_take hi hs hf hr hQ hy hS h
theorem Zq (i:Nat) (dst:Option Tmp) {f:FuncId} {args:Array Value} {V:Value} (hi:ops[i]? =some o) (hr:Region.ready md ops listed= [i]) (hd:o.dst=dst) (hw:Region.wanted o (yielded ops a.tmps)=true)
  (he:(execOp a.eval o).run prog w= .ok (.enter f args) w) (hC:Calls prog f args w fun e w'=>e= .returned V/\Below w.heap.size w w') (hS:Kr w0 rb l w)
  (h: ∀X,Kr w0 rb l X->wpAnyH prog md ops Q (Kr w0 rb l) fuel (listed.setIfInBounds i true) (a.put dst V) X):wpAnyH prog md ops Q (Kr w0 rb l) (fuel+1) listed a w:=by
 subst hd
 refine wpAnyH_ready hr (by simp) (AllReadyH.cons hi (fun K hK=> ?_) AllReadyH.nil)
 rw[if_pos hw]
 unfold Oper.wp
 rw[he,Oper.upon_enter]
 refine hC.mono ?_
 rintro _ X ⟨rfl,hb⟩
 exact hK.out _ _ (hS.on hb) (fun hX=>h X hX)
theorem rstore (i:Nat) {x y:Operand} {u:DD} (hi:ops[i]? =some o) (hr:Region.ready md ops listed= [i]) (hd:o.dst=none) (hw:Region.wanted o (yielded ops a.tmps)=true)
  (ho:o.op= .store 48 x y) (hx:a.eval x= .pointer (some ⟨rb,0,none⟩)) (hy:a.eval y=u.agg) (hS:Kr w0 rb l w)
  (h: ∀X,Kp w0 X ((rb, .D u)::l)->wpAnyH prog md ops Q (Kr w0 rb l) fuel (listed.setIfInBounds i true) (a.put none undef) X):wpAnyH prog md ops Q (Kr w0 rb l) (fuel+1) listed a w:=by
 obtain⟨r,hK0⟩:=hS
 rw[←hd] at h
 refine wpAnyH_ready hr (by simp) (AllReadyH.cons hi (fun K hK=> ?_) AllReadyH.nil)
 rw[if_pos hw]
 have hP:=hK0.put 0 (u:=u) rfl
 exact wp_store_mid 48 x y ho _ 0 u.cs.toArray hx hy (Lies.there (hK0.get 0 rfl)) Rh (by simp[DD.cs,Value.oneCell']) (hK.out _ _ ⟨u,hP⟩ (fun _=>h _ hP))
theorem ry24v (j:Nat) {x:Operand} {b:Nat} {d:DD} (hw:Region.wanted o (yielded ops a.tmps)=true) (ho:o.op= .load 26 x) (hx:a.eval x= .pointer (some ⟨b,0,none⟩)) (hl:l[j]? =some (b, .D d)):YieldsIf prog ops (Kr w0 rb l) o d.v.agg a:=by
 obtain⟨t,hu,hd⟩:=Nz
 exact yieldsIf_load_mid hw 26 x ho b 0 hx d.v.cs t (fun X ⟨_,hX⟩=>Lies.rv (hX.get (j+1) hl)) hu hd Oa
theorem ry24g (j:Nat) {x:Operand} {b:Nat} {d:DD} (hw:Region.wanted o (yielded ops a.tmps)=true) (ho:o.op= .load 26 x) (hx:a.eval x= .pointer (some ⟨b,5,none⟩)) (hl:l[j]? =some (b, .D d)):YieldsIf prog ops (Kr w0 rb l) o d.g.agg a:=by
 obtain⟨t,hu,hd⟩:=Nz
 exact yieldsIf_load_mid hw 26 x ho b 5 hx d.g.cs t (fun X ⟨_,hX⟩=>Lies.rg (hX.get (j+1) hl)) hu hd Oa
theorem ry24s (j:Nat) {x:Operand} {b:Nat} {d:DD} (hw:Region.wanted o (yielded ops a.tmps)=true) (ho:o.op= .load 26 x) (hx:a.eval x= .pointer (some ⟨b,10,none⟩)) (hl:l[j]? =some (b, .D d)):YieldsIf prog ops (Kr w0 rb l) o d.s.agg a:=by
 obtain⟨t,hu,hd⟩:=Nz
 exact yieldsIf_load_mid hw 26 x ho b 10 hx d.s.cs t (fun X ⟨_,hX⟩=>Lies.rs (hX.get (j+1) hl)) hu hd Oa
theorem ry25w (j:Nat) {x:Operand} {b:Nat} {d:DD} (hw:Region.wanted o (yielded ops a.tmps)=true) (ho:o.op= .load 46 x) (hx:a.eval x= .pointer (some ⟨b,15,none⟩)) (hl:l[j]? =some (b, .D d)):YieldsIf prog ops (Kr w0 rb l) o (.int .i64 d.w) a:=by
 refine Or.inl ⟨hw,fun X hX=> ?_⟩
 obtain⟨_,hX⟩:=hX
 obtain⟨-,h0,h1,h2,h3,h4,h5,h6,h7,h8,h9,h10,h11,h12,h13,h14,h15,h16,h17⟩:=hX.get (j+1) hl
 unfold execOp
 simp only[ho,hx]
 simp[go_sem,h15,isAgg46]
theorem ry25e (j:Nat) {x:Operand} {b:Nat} {d:DD} (hw:Region.wanted o (yielded ops a.tmps)=true) (ho:o.op= .load 46 x) (hx:a.eval x= .pointer (some ⟨b,16,none⟩)) (hl:l[j]? =some (b, .D d)):YieldsIf prog ops (Kr w0 rb l) o (.int .i64 d.e) a:=by
 refine Or.inl ⟨hw,fun X hX=> ?_⟩
 obtain⟨_,hX⟩:=hX
 obtain⟨-,h0,h1,h2,h3,h4,h5,h6,h7,h8,h9,h10,h11,h12,h13,h14,h15,h16,h17⟩:=hX.get (j+1) hl
 unfold execOp
 simp only[ho,hx]
 simp[go_sem,h16,isAgg46]
theorem ry25c (j:Nat) {x:Operand} {b:Nat} {d:DD} (hw:Region.wanted o (yielded ops a.tmps)=true) (ho:o.op= .load 46 x) (hx:a.eval x= .pointer (some ⟨b,17,none⟩)) (hl:l[j]? =some (b, .D d)):YieldsIf prog ops (Kr w0 rb l) o (.int .i64 d.c) a:=by
 refine Or.inl ⟨hw,fun X hX=> ?_⟩
 obtain⟨_,hX⟩:=hX
 obtain⟨-,h0,h1,h2,h3,h4,h5,h6,h7,h8,h9,h10,h11,h12,h13,h14,h15,h16,h17⟩:=hX.get (j+1) hl
 unfold execOp
 simp only[ho,hx]
 simp[go_sem,h17,isAgg46]
end
theorem Zao (t a:Int) (w:World):Calls prog 129 #[.int .i64 t, .int .i64 a] w fun e w'=>e= .returned (.int .i64 (orT t a))/\Below w.heap.size w w':=
 (Pn t a w).mono fun e w' h=>⟨h.1,by rw[h.2];exact Below.refl _ _⟩
theorem ZcL (n d:DD) (hn:FD n) (hd:FD d) (w:World):Calls prog 114 #[n.agg,d.agg] w fun e w'=>e= .returned (ZaQ n d).agg/\Below w.heap.size w w':=by
 have HTu:=Ab (Zl n d hn hd)
 have HF:=Ab (Ye ⟨d.v,d.g,d.s,d.w,orT d.e n.e,orT d.c n.c⟩ ⟨hd.1,hd.2.1,hd.2.2⟩)
 have HOv:=Ab (Jc d.v n.v hd.1)
 have HOg:=Ab (Jc d.g n.g hd.2.1)
 have HOs:=Ab (Jc d.s n.s hd.2.2)
 clear hn hd
 have LL:=Ab (Lie.new3 w (.D n) (.D d) (.D Ar))
 unfold ZaQ
 generalize Ea n d=tu at *
 generalize Ni ⟨d.v,d.g,d.s,d.w,orT d.e n.e,orT d.c n.c⟩=fd at *
 have hq0:=Gc n
 have hq1:=Gc d
 rw[hq0,hq1]
 clear hq0 hq1
 go_enter func114,ntmps114
 go_wp2_with (first|go_skip|((with_reducible apply Av);(case ho|hw|hx=>rfl);(case hc=>first|exact(Aa LL).one|exact(Aa LL).two|exact(Aa LL).three);simp only[nn]))
 refine(Aa HTu _).mono ?_
 rintro _ w11 ⟨rfl,hb⟩
 replace LL:=Ab ((Aa LL).on hb)
 clear hb
 cases tu
 ·go_wp2_with fail
  refine wp_region_held_drew (P:=prog) (S:=Kr w (w.heap.size+2) [(w.heap.size, .D n),(w.heap.size+1, .D d)]) (by kernel_rfl) (Kr.on ⟨Ar,(Kp.of3 (Aa LL)).drew⟩ (Below.refl _ _)) (fun hS0=> ?_)
  refine Gh 0 (some 22) (.pointer (some ⟨w.heap.size+1,0,none⟩)) rfl (by kernel_rfl) (by kernel_rfl) (by kernel_rfl) (fun _ _ _ h=>h) (by kernel_rfl) (Or.inl ⟨by kernel_rfl,fun _ _=>by kernel_rfl⟩) hS0 ?_
  simp only[nn]
  refine Gh 1 (some 23) d.v.agg rfl (by kernel_rfl) (by kernel_rfl) (by kernel_rfl) (fun _ _ _ h=>h) (by kernel_rfl) (ry24v 1 (x:= .tmp 22) (b:=w.heap.size+1) (d:=d) (by kernel_rfl) (by kernel_rfl) (by kernel_rfl) rfl) hS0 ?_
  simp only[nn]
  refine Gh 2 (some 24) (.pointer (some ⟨w.heap.size,0,none⟩)) rfl (by kernel_rfl) (by kernel_rfl) (by kernel_rfl) (fun _ _ _ h=>h) (by kernel_rfl) (Or.inl ⟨by kernel_rfl,fun _ _=>by kernel_rfl⟩) hS0 ?_
  simp only[nn]
  refine Gh 3 (some 25) n.v.agg rfl (by kernel_rfl) (by kernel_rfl) (by kernel_rfl) (fun _ _ _ h=>h) (by kernel_rfl) (ry24v 0 (x:= .tmp 24) (b:=w.heap.size) (d:=n) (by kernel_rfl) (by kernel_rfl) (by kernel_rfl) rfl) hS0 ?_
  simp only[nn]
  refine Gh 5 (some 27) (.pointer (some ⟨w.heap.size+1,5,none⟩)) rfl (by kernel_rfl) (by kernel_rfl) (by kernel_rfl) (fun _ _ _ h=>h) (by kernel_rfl) (Or.inl ⟨by kernel_rfl,fun _ _=>by kernel_rfl⟩) hS0 ?_
  simp only[nn]
  refine Gh 6 (some 28) d.g.agg rfl (by kernel_rfl) (by kernel_rfl) (by kernel_rfl) (fun _ _ _ h=>h) (by kernel_rfl) (ry24g 1 (x:= .tmp 27) (b:=w.heap.size+1) (d:=d) (by kernel_rfl) (by kernel_rfl) (by kernel_rfl) rfl) hS0 ?_
  simp only[nn]
  refine Gh 7 (some 29) (.pointer (some ⟨w.heap.size,5,none⟩)) rfl (by kernel_rfl) (by kernel_rfl) (by kernel_rfl) (fun _ _ _ h=>h) (by kernel_rfl) (Or.inl ⟨by kernel_rfl,fun _ _=>by kernel_rfl⟩) hS0 ?_
  simp only[nn]
  refine Gh 8 (some 30) n.g.agg rfl (by kernel_rfl) (by kernel_rfl) (by kernel_rfl) (fun _ _ _ h=>h) (by kernel_rfl) (ry24g 0 (x:= .tmp 29) (b:=w.heap.size) (d:=n) (by kernel_rfl) (by kernel_rfl) (by kernel_rfl) rfl) hS0 ?_
  simp only[nn]
  refine Gh 10 (some 32) (.pointer (some ⟨w.heap.size+1,10,none⟩)) rfl (by kernel_rfl) (by kernel_rfl) (by kernel_rfl) (fun _ _ _ h=>h) (by kernel_rfl) (Or.inl ⟨by kernel_rfl,fun _ _=>by kernel_rfl⟩) hS0 ?_
  simp only[nn]
  refine Gh 11 (some 33) d.s.agg rfl (by kernel_rfl) (by kernel_rfl) (by kernel_rfl) (fun _ _ _ h=>h) (by kernel_rfl) (ry24s 1 (x:= .tmp 32) (b:=w.heap.size+1) (d:=d) (by kernel_rfl) (by kernel_rfl) (by kernel_rfl) rfl) hS0 ?_
  simp only[nn]
  refine Gh 12 (some 34) (.pointer (some ⟨w.heap.size,10,none⟩)) rfl (by kernel_rfl) (by kernel_rfl) (by kernel_rfl) (fun _ _ _ h=>h) (by kernel_rfl) (Or.inl ⟨by kernel_rfl,fun _ _=>by kernel_rfl⟩) hS0 ?_
  simp only[nn]
  refine Gh 13 (some 35) n.s.agg rfl (by kernel_rfl) (by kernel_rfl) (by kernel_rfl) (fun _ _ _ h=>h) (by kernel_rfl) (ry24s 0 (x:= .tmp 34) (b:=w.heap.size) (d:=n) (by kernel_rfl) (by kernel_rfl) (by kernel_rfl) rfl) hS0 ?_
  simp only[nn]
  refine Gh 15 (some 37) (.pointer (some ⟨w.heap.size+1,15,none⟩)) rfl (by kernel_rfl) (by kernel_rfl) (by kernel_rfl) (fun _ _ _ h=>h) (by kernel_rfl) (Or.inl ⟨by kernel_rfl,fun _ _=>by kernel_rfl⟩) hS0 ?_
  simp only[nn]
  refine Gh 16 (some 38) (.int .i64 d.w) rfl (by kernel_rfl) (by kernel_rfl) (by kernel_rfl) (fun _ _ _ h=>h) (by kernel_rfl) (ry25w 1 (x:= .tmp 37) (b:=w.heap.size+1) (d:=d) (by kernel_rfl) (by kernel_rfl) (by kernel_rfl) rfl) hS0 ?_
  simp only[nn]
  refine Gh 17 (some 39) (.pointer (some ⟨w.heap.size,15,none⟩)) rfl (by kernel_rfl) (by kernel_rfl) (by kernel_rfl) (fun _ _ _ h=>h) (by kernel_rfl) (Or.inl ⟨by kernel_rfl,fun _ _=>by kernel_rfl⟩) hS0 ?_
  simp only[nn]
  refine Gh 18 (some 40) (.int .i64 n.w) rfl (by kernel_rfl) (by kernel_rfl) (by kernel_rfl) (fun _ _ _ h=>h) (by kernel_rfl) (ry25w 0 (x:= .tmp 39) (b:=w.heap.size) (d:=n) (by kernel_rfl) (by kernel_rfl) (by kernel_rfl) rfl) hS0 ?_
  simp only[nn]
  refine Gh 20 (some 42) (.pointer (some ⟨w.heap.size+1,16,none⟩)) rfl (by kernel_rfl) (by kernel_rfl) (by kernel_rfl) (fun _ _ _ h=>h) (by kernel_rfl) (Or.inl ⟨by kernel_rfl,fun _ _=>by kernel_rfl⟩) hS0 ?_
  simp only[nn]
  refine Gh 21 (some 43) (.int .i64 d.e) rfl (by kernel_rfl) (by kernel_rfl) (by kernel_rfl) (fun _ _ _ h=>h) (by kernel_rfl) (ry25e 1 (x:= .tmp 42) (b:=w.heap.size+1) (d:=d) (by kernel_rfl) (by kernel_rfl) (by kernel_rfl) rfl) hS0 ?_
  simp only[nn]
  refine Gh 22 (some 44) (.pointer (some ⟨w.heap.size,16,none⟩)) rfl (by kernel_rfl) (by kernel_rfl) (by kernel_rfl) (fun _ _ _ h=>h) (by kernel_rfl) (Or.inl ⟨by kernel_rfl,fun _ _=>by kernel_rfl⟩) hS0 ?_
  simp only[nn]
  refine Gh 23 (some 45) (.int .i64 n.e) rfl (by kernel_rfl) (by kernel_rfl) (by kernel_rfl) (fun _ _ _ h=>h) (by kernel_rfl) (ry25e 0 (x:= .tmp 44) (b:=w.heap.size) (d:=n) (by kernel_rfl) (by kernel_rfl) (by kernel_rfl) rfl) hS0 ?_
  simp only[nn]
  refine Gh 25 (some 47) (.pointer (some ⟨w.heap.size+1,17,none⟩)) rfl (by kernel_rfl) (by kernel_rfl) (by kernel_rfl) (fun _ _ _ h=>h) (by kernel_rfl) (Or.inl ⟨by kernel_rfl,fun _ _=>by kernel_rfl⟩) hS0 ?_
  simp only[nn]
  refine Gh 26 (some 48) (.int .i64 d.c) rfl (by kernel_rfl) (by kernel_rfl) (by kernel_rfl) (fun _ _ _ h=>h) (by kernel_rfl) (ry25c 1 (x:= .tmp 47) (b:=w.heap.size+1) (d:=d) (by kernel_rfl) (by kernel_rfl) (by kernel_rfl) rfl) hS0 ?_
  simp only[nn]
  refine Gh 27 (some 49) (.pointer (some ⟨w.heap.size,17,none⟩)) rfl (by kernel_rfl) (by kernel_rfl) (by kernel_rfl) (fun _ _ _ h=>h) (by kernel_rfl) (Or.inl ⟨by kernel_rfl,fun _ _=>by kernel_rfl⟩) hS0 ?_
  simp only[nn]
  refine Gh 28 (some 50) (.int .i64 n.c) rfl (by kernel_rfl) (by kernel_rfl) (by kernel_rfl) (fun _ _ _ h=>h) (by kernel_rfl) (ry25c 0 (x:= .tmp 49) (b:=w.heap.size) (d:=n) (by kernel_rfl) (by kernel_rfl) (by kernel_rfl) rfl) hS0 ?_
  simp only[nn]
  refine Zq 4 (some 26) rfl (by kernel_rfl) (by kernel_rfl) (by kernel_rfl) (by kernel_rfl) (Aa HOv _) hS0 (fun w1 hS1=> ?_)
  clear hS0
  simp only[nn]
  refine Zq 9 (some 31) rfl (by kernel_rfl) (by kernel_rfl) (by kernel_rfl) (by kernel_rfl) (Aa HOg _) hS1 (fun w2 hS2=> ?_)
  clear hS1
  simp only[nn]
  refine Zq 14 (some 36) rfl (by kernel_rfl) (by kernel_rfl) (by kernel_rfl) (by kernel_rfl) (Aa HOs _) hS2 (fun w3 hS3=> ?_)
  clear hS2
  simp only[nn]
  refine Zq 19 (some 41) rfl (by kernel_rfl) (by kernel_rfl) (by kernel_rfl) (by kernel_rfl) (Zao d.w n.w _) hS3 (fun w4 hS4=> ?_)
  clear hS3
  simp only[nn]
  refine Zq 24 (some 46) rfl (by kernel_rfl) (by kernel_rfl) (by kernel_rfl) (by kernel_rfl) (Zao d.e n.e _) hS4 (fun w5 hS5=> ?_)
  clear hS4
  simp only[nn]
  refine Zq 29 (some 51) rfl (by kernel_rfl) (by kernel_rfl) (by kernel_rfl) (by kernel_rfl) (Zao d.c n.c _) hS5 (fun w6 hS6=> ?_)
  clear hS5
  simp only[nn]
  refine Gh 30 (some 52) (DD.agg ⟨orV d.v n.v,orV d.g n.g,orV d.s n.s,orT d.w n.w,orT d.e n.e,orT d.c n.c⟩) rfl (by kernel_rfl) (by kernel_rfl) (by kernel_rfl) (fun _ _ _ h=>h) (by kernel_rfl) (Or.inl ⟨by kernel_rfl,fun _ _=>by kernel_rfl⟩) hS6 ?_
  simp only[nn]
  refine rstore 31 (x:= .tmp 4) (y:= .tmp 52) (u:=⟨orV d.v n.v,orV d.g n.g,orV d.s n.s,orT d.w n.w,orT d.e n.e,orT d.c n.c⟩) rfl (by kernel_rfl) (by kernel_rfl) (by kernel_rfl) (by kernel_rfl) (by kernel_rfl) (by kernel_rfl) hS6 (fun w7 hK=> ?_)
  clear hS6
  try simp only[nn]
  refine dn ?_
  go_wp2_with fail
  refine Zbb rfl rfl rfl (hK.get 0 rfl) ?_
  exact⟨rfl,hK.below⟩
 ·go_wp2_with (first|go_skip|((with_reducible apply Av);(case ho|hw|hx=>rfl);(case hc=>first|exact(Aa LL).one|exact(Aa LL).two|exact(Aa LL).three);simp only[nn])|((with_reducible apply Ay);(case ho|hw|hx=>rfl);(case hc=>first|exact(Aa LL).one|exact(Aa LL).two|exact(Aa LL).three);simp only[nn])|((with_reducible apply Au);(case ho|hw|hx=>rfl);(case hc=>first|exact(Aa LL).one|exact(Aa LL).two|exact(Aa LL).three);simp only[nn])|((with_reducible apply Pq 1);(case ho|hw=>rfl);(case hL=>exact Aa LL);(case hi|hx|hy=>rfl);(intro X LX;simp only[nn];replace LL:=Ab LX;clear LX))|((with_reducible apply Ps 1);(case ho|hw=>rfl);(case hL=>exact Aa LL);(case hi|hx|hy=>rfl);(intro X LX;simp only[nn];replace LL:=Ab LX;clear LX))|((with_reducible apply Di 2);(case ho|hw=>rfl);(case hL=>exact Aa LL);(case hi|hx|hy=>rfl);(intro X LX;simp only[nn];replace LL:=Ab LX;clear LX))|(go_at_call 129;refine(Pn _ _ _).mono ?_;rintro _ _ ⟨rfl,rfl⟩))
  refine(Aa HF _).mono ?_
  rintro _ w11 ⟨rfl,hb⟩
  replace LL:=Ab ((Aa LL).on hb)
  clear hb
  go_wp2_with (first|go_skip|((with_reducible apply Av);(case ho|hw|hx=>rfl);(case hc=>first|exact(Aa LL).one|exact(Aa LL).two|exact(Aa LL).three);simp only[nn])|((with_reducible apply Ay);(case ho|hw|hx=>rfl);(case hc=>first|exact(Aa LL).one|exact(Aa LL).two|exact(Aa LL).three);simp only[nn])|((with_reducible apply Au);(case ho|hw|hx=>rfl);(case hc=>first|exact(Aa LL).one|exact(Aa LL).two|exact(Aa LL).three);simp only[nn])|((with_reducible apply Pq 1);(case ho|hw=>rfl);(case hL=>exact Aa LL);(case hi|hx|hy=>rfl);(intro X LX;simp only[nn];replace LL:=Ab LX;clear LX))|((with_reducible apply Ps 1);(case ho|hw=>rfl);(case hL=>exact Aa LL);(case hi|hx|hy=>rfl);(intro X LX;simp only[nn];replace LL:=Ab LX;clear LX))|((with_reducible apply Di 2);(case ho|hw=>rfl);(case hL=>exact Aa LL);(case hi|hx|hy=>rfl);(intro X LX;simp only[nn];replace LL:=Ab LX;clear LX))|(go_at_call 129;refine(Pn _ _ _).mono ?_;rintro _ _ ⟨rfl,rfl⟩))
  refine Zbb rfl rfl rfl (Aa LL).three ?_
  exact⟨rfl,(Aa LL).below⟩
def Du (x:Bool) (n d:DD):DD:=if Gt d==0|| !stV n then Ar else if noV n then (if x then Ni d else Ar) else if n.c==1 && Yc n d then n else ZaQ n d
def ZaR (x:Bool) (n d:DD):Bool:=if Gt d==0|| !stV n then false else if noV n then x else !(n.c==1 && Yc n d)
def Kh (n d:DD):Int:=if Gt d==0|| !stV n then 5 else 0
theorem no_str {n:DD} (h:noV n=true):n.v.s.size<=1048576:=by
 refine Zbp ?_
 unfold noV Df at h
 cases ht:thV n.v
 ·rfl
 ·rw[ht] at h
  simp at h
  split at h<;>simp_all
theorem st_str {n:DD} (h:stV n=true):n.v.s.size<=1048576:=by
 unfold stV at h
 simp only[Bool.or_eq_true] at h
 rcases h with h|h
 ·exact no_str h
 ·exact Re (Ov (Zb4 h))
theorem bec_str {n d:DD} (h1:n.v.s.size<=1048576) (h2:d.v.s.size<=1048576):(ZaQ n d).v.s.size<=1048576:=by
 unfold ZaQ
 cases Ea n d
 ·show (orV d.v n.v).s.size<=1048576
  unfold orV
  cases thV d.v
  ·exact h1
  ·exact h2
 ·exact ZbL h2
theorem Zen (x:Bool) (n d:DD) (hn:FD n) (hd:FD d) (w:World) (hT:Lib.Utf8Tabs 1 2 w):Calls prog 89 #[.bool x,n.agg,d.agg] w fun e w'=>e= .returned (.tuple #[(Du x n d).agg, .bool (ZaR x n d), .int .i64 (Kh n d)])/\Below w.heap.size w w':=by
 have HT:=Ab hT
 clear hT
 have HC:=Ab (fun w hT=>ZbV d hd w hT)
 have HSt:=Ab (fun w hT=>Zcb n hn w hT)
 have HNo:=Ab (Ub n hn)
 have HFi:=Ab (Ye d hd)
 have HFb:=Ab (fun w hT=>Zg n d hn hd w hT)
 have HBe:=Ab (ZcL n d hn hd)
 have HAf:=Ab (fun (h: ¬Gt d=0) w=>Yu (Ni d) (ZbL (Re (Ov h))) w)
 have HAn:=Ab (fun (h:stV n=true) w=>Yu n (st_str h) w)
 have HAb:=Ab (fun (h: ¬Gt d=0) (h2:stV n=true) w=>Yu (ZaQ n d) (bec_str (st_str h2) (Re (Ov h))) w)
 clear hn hd
 have LL:=Ab (Lie.new3 w (.D n) (.D d) (.D Ar))
 unfold Du ZaR Kh
 unfold Gi at HC
 generalize Gt d=k at *
 generalize stV n=st at *
 generalize noV n=no at *
 generalize Ni d=fd at *
 generalize Yc n d=fb at *
 generalize ZaQ n d=be at *
 generalize hq:(n.c==1)=q at *
 have hq0:=Gc n
 have hq1:=Gc d
 rw[hq0,hq1]
 clear hq0 hq1
 by_cases hk:k=0
 ·clear HAf HAb HAn
  subst hk
  go_enter func89,ntmps89
  go_wp2_with (first|go_skip|((with_reducible apply Av);(case ho|hw|hx=>rfl);(case hc=>first|exact(Aa LL).one|exact(Aa LL).two);simp only[nn])|((with_reducible apply Di (u:=Ar) 2);(case ho|hw=>rfl);(case hL=>exact Aa LL);(case hi|hx|hy=>rfl);(intro X LX;simp only[nn];replace LL:=Ab LX;clear LX)))
  refine(Aa HC _ (Al (Aa HT) (Aa LL).below)).mono ?_
  rintro _ w11 ⟨rfl,hb⟩
  replace LL:=Ab ((Aa LL).on hb)
  clear hb
  go_wp2_with (first|go_skip|((with_reducible apply Av);(case ho|hw|hx=>rfl);(case hc=>first|exact(Aa LL).one|exact(Aa LL).two);simp only[nn])|((with_reducible apply Di (u:=Ar) 2);(case ho|hw=>rfl);(case hL=>exact Aa LL);(case hi|hx|hy=>rfl);(intro X LX;simp only[nn];replace LL:=Ab LX;clear LX)))
  refine Mh rfl rfl rfl rfl rfl (Aa LL).three ?_
  exact⟨rfl,(Aa LL).below⟩
 ·have e0:(k==0)=false:=by simp[hk]
  simp only[e0] at HC ⊢
  replace HAf:=Ab (Aa HAf hk)
  replace HAb:=Ab (Aa HAb hk)
  clear hk e0
  cases st
  ·clear HAn HAb
   go_enter func89,ntmps89
   go_wp2_with (first|go_skip|((with_reducible apply Av);(case ho|hw|hx=>rfl);(case hc=>first|exact(Aa LL).one|exact(Aa LL).two);simp only[nn])|((with_reducible apply Di (u:=Ar) 2);(case ho|hw=>rfl);(case hL=>exact Aa LL);(case hi|hx|hy=>rfl);(intro X LX;simp only[nn];replace LL:=Ab LX;clear LX)))
   refine(Aa HC _ (Al (Aa HT) (Aa LL).below)).mono ?_
   rintro _ w12 ⟨rfl,hb⟩
   replace LL:=Ab ((Aa LL).on hb)
   clear hb
   go_wp2_with (first|go_skip|((with_reducible apply Av);(case ho|hw|hx=>rfl);(case hc=>first|exact(Aa LL).one|exact(Aa LL).two);simp only[nn])|((with_reducible apply Di (u:=Ar) 2);(case ho|hw=>rfl);(case hL=>exact Aa LL);(case hi|hx|hy=>rfl);(intro X LX;simp only[nn];replace LL:=Ab LX;clear LX)))
   refine(Aa HSt _ (Al (Aa HT) (Aa LL).below)).mono ?_
   rintro _ w13 ⟨rfl,hb⟩
   replace LL:=Ab ((Aa LL).on hb)
   clear hb
   go_wp2_with (first|go_skip|((with_reducible apply Av);(case ho|hw|hx=>rfl);(case hc=>first|exact(Aa LL).one|exact(Aa LL).two);simp only[nn])|((with_reducible apply Di (u:=Ar) 2);(case ho|hw=>rfl);(case hL=>exact Aa LL);(case hi|hx|hy=>rfl);(intro X LX;simp only[nn];replace LL:=Ab LX;clear LX)))
   refine Mh rfl rfl rfl rfl rfl (Aa LL).three ?_
   exact⟨rfl,(Aa LL).below⟩
  ·replace HAn:=Ab (Aa HAn rfl)
   replace HAb:=Ab (Aa HAb rfl)
   cases no
   ·go_enter func89,ntmps89
    go_wp2_with (first|go_skip|((with_reducible apply Av);(case ho|hw|hx=>rfl);(case hc=>first|exact(Aa LL).one|exact(Aa LL).two);simp only[nn])|((with_reducible apply Au);(case ho|hw|hx=>rfl);(case hc=>first|exact(Aa LL).one|exact(Aa LL).two);simp only[nn])|((with_reducible apply Di 2);(case ho|hw=>rfl);(case hL=>exact Aa LL);(case hi|hx|hy=>rfl);(intro X LX;simp only[nn];replace LL:=Ab LX;clear LX)))
    refine(Aa HC _ (Al (Aa HT) (Aa LL).below)).mono ?_
    rintro _ w17 ⟨rfl,hb⟩
    replace LL:=Ab ((Aa LL).on hb)
    clear hb
    go_wp2_with (first|go_skip|((with_reducible apply Av);(case ho|hw|hx=>rfl);(case hc=>first|exact(Aa LL).one|exact(Aa LL).two);simp only[nn])|((with_reducible apply Au);(case ho|hw|hx=>rfl);(case hc=>first|exact(Aa LL).one|exact(Aa LL).two);simp only[nn])|((with_reducible apply Di 2);(case ho|hw=>rfl);(case hL=>exact Aa LL);(case hi|hx|hy=>rfl);(intro X LX;simp only[nn];replace LL:=Ab LX;clear LX)))
    refine(Aa HSt _ (Al (Aa HT) (Aa LL).below)).mono ?_
    rintro _ w18 ⟨rfl,hb⟩
    replace LL:=Ab ((Aa LL).on hb)
    clear hb
    go_wp2_with (first|go_skip|((with_reducible apply Av);(case ho|hw|hx=>rfl);(case hc=>first|exact(Aa LL).one|exact(Aa LL).two);simp only[nn])|((with_reducible apply Au);(case ho|hw|hx=>rfl);(case hc=>first|exact(Aa LL).one|exact(Aa LL).two);simp only[nn])|((with_reducible apply Di 2);(case ho|hw=>rfl);(case hL=>exact Aa LL);(case hi|hx|hy=>rfl);(intro X LX;simp only[nn];replace LL:=Ab LX;clear LX)))
    refine(Aa HNo _).mono ?_
    rintro _ w19 ⟨rfl,hb⟩
    replace LL:=Ab ((Aa LL).on hb)
    clear hb
    go_wp2_with (first|go_skip|((with_reducible apply Av);(case ho|hw|hx=>rfl);(case hc=>first|exact(Aa LL).one|exact(Aa LL).two);simp only[nn])|((with_reducible apply Au);(case ho|hw|hx=>rfl);(case hc=>first|exact(Aa LL).one|exact(Aa LL).two);simp only[nn])|((with_reducible apply Di 2);(case ho|hw=>rfl);(case hL=>exact Aa LL);(case hi|hx|hy=>rfl);(intro X LX;simp only[nn];replace LL:=Ab LX;clear LX)))
    refine(Aa HNo _).mono ?_
    rintro _ w20 ⟨rfl,hb⟩
    replace LL:=Ab ((Aa LL).on hb)
    clear hb
    cases q
    ·go_wp2_with (first|go_skip|((with_reducible apply Av);(case ho|hw|hx=>rfl);(case hc=>first|exact(Aa LL).one|exact(Aa LL).two);simp only[nn])|((with_reducible apply Au);(case ho|hw|hx=>rfl);(case hc=>first|exact(Aa LL).one|exact(Aa LL).two);simp only[nn])|((with_reducible apply Di 2);(case ho|hw=>rfl);(case hL=>exact Aa LL);(case hi|hx|hy=>rfl);(intro X LX;simp only[nn];replace LL:=Ab LX;clear LX)))
     refine(Aa HBe _).mono ?_
     rintro _ w21 ⟨rfl,hb⟩
     replace LL:=Ab ((Aa LL).on hb)
     clear hb
     go_wp2_with (first|go_skip|((with_reducible apply Av);(case ho|hw|hx=>rfl);(case hc=>first|exact(Aa LL).one|exact(Aa LL).two);simp only[nn])|((with_reducible apply Au);(case ho|hw|hx=>rfl);(case hc=>first|exact(Aa LL).one|exact(Aa LL).two);simp only[nn])|((with_reducible apply Di 2);(case ho|hw=>rfl);(case hL=>exact Aa LL);(case hi|hx|hy=>rfl);(intro X LX;simp only[nn];replace LL:=Ab LX;clear LX)))
     refine(Aa HAb _).mono ?_
     rintro _ w22 ⟨rfl,hb⟩
     replace LL:=Ab ((Aa LL).on hb)
     clear hb
     go_wp2_with (first|go_skip|((with_reducible apply Av);(case ho|hw|hx=>rfl);(case hc=>first|exact(Aa LL).one|exact(Aa LL).two);simp only[nn])|((with_reducible apply Au);(case ho|hw|hx=>rfl);(case hc=>first|exact(Aa LL).one|exact(Aa LL).two);simp only[nn])|((with_reducible apply Di 2);(case ho|hw=>rfl);(case hL=>exact Aa LL);(case hi|hx|hy=>rfl);(intro X LX;simp only[nn];replace LL:=Ab LX;clear LX)))
     refine Mh rfl rfl rfl rfl rfl (Aa LL).three ?_
     exact⟨rfl,(Aa LL).below⟩
    ·go_wp2_with (first|go_skip|((with_reducible apply Av);(case ho|hw|hx=>rfl);(case hc=>first|exact(Aa LL).one|exact(Aa LL).two);simp only[nn])|((with_reducible apply Au);(case ho|hw|hx=>rfl);(case hc=>first|exact(Aa LL).one|exact(Aa LL).two);simp only[nn])|((with_reducible apply Di 2);(case ho|hw=>rfl);(case hL=>exact Aa LL);(case hi|hx|hy=>rfl);(intro X LX;simp only[nn];replace LL:=Ab LX;clear LX)))
     refine(Aa HFb _ (Al (Aa HT) (Aa LL).below)).mono ?_
     rintro _ w23 ⟨rfl,hb⟩
     replace LL:=Ab ((Aa LL).on hb)
     clear hb
     cases fb
     ·go_wp2_with (first|go_skip|((with_reducible apply Av);(case ho|hw|hx=>rfl);(case hc=>first|exact(Aa LL).one|exact(Aa LL).two);simp only[nn])|((with_reducible apply Au);(case ho|hw|hx=>rfl);(case hc=>first|exact(Aa LL).one|exact(Aa LL).two);simp only[nn])|((with_reducible apply Di 2);(case ho|hw=>rfl);(case hL=>exact Aa LL);(case hi|hx|hy=>rfl);(intro X LX;simp only[nn];replace LL:=Ab LX;clear LX)))
      refine(Aa HBe _).mono ?_
      rintro _ w24 ⟨rfl,hb⟩
      replace LL:=Ab ((Aa LL).on hb)
      clear hb
      go_wp2_with (first|go_skip|((with_reducible apply Av);(case ho|hw|hx=>rfl);(case hc=>first|exact(Aa LL).one|exact(Aa LL).two);simp only[nn])|((with_reducible apply Au);(case ho|hw|hx=>rfl);(case hc=>first|exact(Aa LL).one|exact(Aa LL).two);simp only[nn])|((with_reducible apply Di 2);(case ho|hw=>rfl);(case hL=>exact Aa LL);(case hi|hx|hy=>rfl);(intro X LX;simp only[nn];replace LL:=Ab LX;clear LX)))
      refine(Aa HAb _).mono ?_
      rintro _ w25 ⟨rfl,hb⟩
      replace LL:=Ab ((Aa LL).on hb)
      clear hb
      go_wp2_with (first|go_skip|((with_reducible apply Av);(case ho|hw|hx=>rfl);(case hc=>first|exact(Aa LL).one|exact(Aa LL).two);simp only[nn])|((with_reducible apply Au);(case ho|hw|hx=>rfl);(case hc=>first|exact(Aa LL).one|exact(Aa LL).two);simp only[nn])|((with_reducible apply Di 2);(case ho|hw=>rfl);(case hL=>exact Aa LL);(case hi|hx|hy=>rfl);(intro X LX;simp only[nn];replace LL:=Ab LX;clear LX)))
      refine Mh rfl rfl rfl rfl rfl (Aa LL).three ?_
      exact⟨rfl,(Aa LL).below⟩
     ·go_wp2_with (first|go_skip|((with_reducible apply Av);(case ho|hw|hx=>rfl);(case hc=>first|exact(Aa LL).one|exact(Aa LL).two);simp only[nn])|((with_reducible apply Au);(case ho|hw|hx=>rfl);(case hc=>first|exact(Aa LL).one|exact(Aa LL).two);simp only[nn])|((with_reducible apply Di 2);(case ho|hw=>rfl);(case hL=>exact Aa LL);(case hi|hx|hy=>rfl);(intro X LX;simp only[nn];replace LL:=Ab LX;clear LX)))
      refine(Aa HAn _).mono ?_
      rintro _ w26 ⟨rfl,hb⟩
      replace LL:=Ab ((Aa LL).on hb)
      clear hb
      go_wp2_with (first|go_skip|((with_reducible apply Av);(case ho|hw|hx=>rfl);(case hc=>first|exact(Aa LL).one|exact(Aa LL).two);simp only[nn])|((with_reducible apply Au);(case ho|hw|hx=>rfl);(case hc=>first|exact(Aa LL).one|exact(Aa LL).two);simp only[nn])|((with_reducible apply Di 2);(case ho|hw=>rfl);(case hL=>exact Aa LL);(case hi|hx|hy=>rfl);(intro X LX;simp only[nn];replace LL:=Ab LX;clear LX)))
      refine Mh rfl rfl rfl rfl rfl (Aa LL).three ?_
      exact⟨rfl,(Aa LL).below⟩
   ·cases x
    ·go_enter func89,ntmps89
     go_wp2_with (first|go_skip|((with_reducible apply Av);(case ho|hw|hx=>rfl);(case hc=>first|exact(Aa LL).one|exact(Aa LL).two);simp only[nn])|((with_reducible apply Di (u:=Ar) 2);(case ho|hw=>rfl);(case hL=>exact Aa LL);(case hi|hx|hy=>rfl);(intro X LX;simp only[nn];replace LL:=Ab LX;clear LX)))
     refine(Aa HC _ (Al (Aa HT) (Aa LL).below)).mono ?_
     rintro _ w14 ⟨rfl,hb⟩
     replace LL:=Ab ((Aa LL).on hb)
     clear hb
     go_wp2_with (first|go_skip|((with_reducible apply Av);(case ho|hw|hx=>rfl);(case hc=>first|exact(Aa LL).one|exact(Aa LL).two);simp only[nn])|((with_reducible apply Di (u:=Ar) 2);(case ho|hw=>rfl);(case hL=>exact Aa LL);(case hi|hx|hy=>rfl);(intro X LX;simp only[nn];replace LL:=Ab LX;clear LX)))
     refine(Aa HSt _ (Al (Aa HT) (Aa LL).below)).mono ?_
     rintro _ w15 ⟨rfl,hb⟩
     replace LL:=Ab ((Aa LL).on hb)
     clear hb
     go_wp2_with (first|go_skip|((with_reducible apply Av);(case ho|hw|hx=>rfl);(case hc=>first|exact(Aa LL).one|exact(Aa LL).two);simp only[nn])|((with_reducible apply Di (u:=Ar) 2);(case ho|hw=>rfl);(case hL=>exact Aa LL);(case hi|hx|hy=>rfl);(intro X LX;simp only[nn];replace LL:=Ab LX;clear LX)))
     refine(Aa HNo _).mono ?_
     rintro _ w16 ⟨rfl,hb⟩
     replace LL:=Ab ((Aa LL).on hb)
     clear hb
     go_wp2_with (first|go_skip|((with_reducible apply Av);(case ho|hw|hx=>rfl);(case hc=>first|exact(Aa LL).one|exact(Aa LL).two);simp only[nn])|((with_reducible apply Di (u:=Ar) 2);(case ho|hw=>rfl);(case hL=>exact Aa LL);(case hi|hx|hy=>rfl);(intro X LX;simp only[nn];replace LL:=Ab LX;clear LX)))
     refine Mh rfl rfl rfl rfl rfl (Aa LL).three ?_
     exact⟨rfl,(Aa LL).below⟩
    ·go_enter func89,ntmps89
     go_wp2_with (first|go_skip|((with_reducible apply Av);(case ho|hw|hx=>rfl);(case hc=>first|exact(Aa LL).one|exact(Aa LL).two);simp only[nn])|((with_reducible apply Au);(case ho|hw|hx=>rfl);(case hc=>first|exact(Aa LL).one|exact(Aa LL).two);simp only[nn])|((with_reducible apply Di 2);(case ho|hw=>rfl);(case hL=>exact Aa LL);(case hi|hx|hy=>rfl);(intro X LX;simp only[nn];replace LL:=Ab LX;clear LX)))
     refine(Aa HC _ (Al (Aa HT) (Aa LL).below)).mono ?_
     rintro _ w11 ⟨rfl,hb⟩
     replace LL:=Ab ((Aa LL).on hb)
     clear hb
     go_wp2_with (first|go_skip|((with_reducible apply Av);(case ho|hw|hx=>rfl);(case hc=>first|exact(Aa LL).one|exact(Aa LL).two);simp only[nn])|((with_reducible apply Au);(case ho|hw|hx=>rfl);(case hc=>first|exact(Aa LL).one|exact(Aa LL).two);simp only[nn])|((with_reducible apply Di 2);(case ho|hw=>rfl);(case hL=>exact Aa LL);(case hi|hx|hy=>rfl);(intro X LX;simp only[nn];replace LL:=Ab LX;clear LX)))
     refine(Aa HSt _ (Al (Aa HT) (Aa LL).below)).mono ?_
     rintro _ w12 ⟨rfl,hb⟩
     replace LL:=Ab ((Aa LL).on hb)
     clear hb
     go_wp2_with (first|go_skip|((with_reducible apply Av);(case ho|hw|hx=>rfl);(case hc=>first|exact(Aa LL).one|exact(Aa LL).two);simp only[nn])|((with_reducible apply Au);(case ho|hw|hx=>rfl);(case hc=>first|exact(Aa LL).one|exact(Aa LL).two);simp only[nn])|((with_reducible apply Di 2);(case ho|hw=>rfl);(case hL=>exact Aa LL);(case hi|hx|hy=>rfl);(intro X LX;simp only[nn];replace LL:=Ab LX;clear LX)))
     refine(Aa HNo _).mono ?_
     rintro _ w13 ⟨rfl,hb⟩
     replace LL:=Ab ((Aa LL).on hb)
     clear hb
     go_wp2_with (first|go_skip|((with_reducible apply Av);(case ho|hw|hx=>rfl);(case hc=>first|exact(Aa LL).one|exact(Aa LL).two);simp only[nn])|((with_reducible apply Au);(case ho|hw|hx=>rfl);(case hc=>first|exact(Aa LL).one|exact(Aa LL).two);simp only[nn])|((with_reducible apply Di 2);(case ho|hw=>rfl);(case hL=>exact Aa LL);(case hi|hx|hy=>rfl);(intro X LX;simp only[nn];replace LL:=Ab LX;clear LX)))
     refine(Aa HNo _).mono ?_
     rintro _ w14 ⟨rfl,hb⟩
     replace LL:=Ab ((Aa LL).on hb)
     clear hb
     go_wp2_with (first|go_skip|((with_reducible apply Av);(case ho|hw|hx=>rfl);(case hc=>first|exact(Aa LL).one|exact(Aa LL).two);simp only[nn])|((with_reducible apply Au);(case ho|hw|hx=>rfl);(case hc=>first|exact(Aa LL).one|exact(Aa LL).two);simp only[nn])|((with_reducible apply Di 2);(case ho|hw=>rfl);(case hL=>exact Aa LL);(case hi|hx|hy=>rfl);(intro X LX;simp only[nn];replace LL:=Ab LX;clear LX)))
     refine(Aa HFi _).mono ?_
     rintro _ w15 ⟨rfl,hb⟩
     replace LL:=Ab ((Aa LL).on hb)
     clear hb
     go_wp2_with (first|go_skip|((with_reducible apply Av);(case ho|hw|hx=>rfl);(case hc=>first|exact(Aa LL).one|exact(Aa LL).two);simp only[nn])|((with_reducible apply Au);(case ho|hw|hx=>rfl);(case hc=>first|exact(Aa LL).one|exact(Aa LL).two);simp only[nn])|((with_reducible apply Di 2);(case ho|hw=>rfl);(case hL=>exact Aa LL);(case hi|hx|hy=>rfl);(intro X LX;simp only[nn];replace LL:=Ab LX;clear LX)))
     refine(Aa HAf _).mono ?_
     rintro _ w16 ⟨rfl,hb⟩
     replace LL:=Ab ((Aa LL).on hb)
     clear hb
     go_wp2_with (first|go_skip|((with_reducible apply Av);(case ho|hw|hx=>rfl);(case hc=>first|exact(Aa LL).one|exact(Aa LL).two);simp only[nn])|((with_reducible apply Au);(case ho|hw|hx=>rfl);(case hc=>first|exact(Aa LL).one|exact(Aa LL).two);simp only[nn])|((with_reducible apply Di 2);(case ho|hw=>rfl);(case hL=>exact Aa LL);(case hi|hx|hy=>rfl);(intro X LX;simp only[nn];replace LL:=Ab LX;clear LX)))
     refine Mh rfl rfl rfl rfl rfl (Aa LL).three ?_
     exact⟨rfl,(Aa LL).below⟩
