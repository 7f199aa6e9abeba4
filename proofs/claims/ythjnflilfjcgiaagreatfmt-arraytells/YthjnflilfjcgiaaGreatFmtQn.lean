import Derived.Test.YthjnflilfjcgiaaGreatFmtQm
set_option linter.all false
namespace Go.Proofs.YthjnflilfjcgiaaGreatFmt
set_option maxRecDepth 100000
set_option maxHeartbeats 0
section
open Go Go.Proofs Go.RowKit FM
theorem good_str {v:VV} (h:v.good=true):v.s.size<=1048576:=by
 have e0:ByteArray.empty.size<=1048576:=by decide
 obtain⟨k,b,x,s,i⟩:=v
 rcases good_cases h with ⟨_,_,_,rfl,_⟩|⟨_,_,_,rfl,_⟩|⟨_,_,rfl,_⟩|⟨_,_,rfl,_⟩|⟨_,_,_,_,hf⟩|⟨_,_,_,rfl,_⟩|⟨_,_,_,rfl,_⟩
 ·exact e0
 ·exact e0
 ·exact e0
 ·exact e0
 ·unfold fitV at hf
  simp at hf
  exact hf.1
 ·exact e0
 ·exact e0
theorem none_str {v:VV} (h:thV v=false):v.s.size<=1048576:=by
 unfold thV at h
 simp only[Bool.not_eq_false',Bool.and_eq_true] at h
 rw[empty_of h.1.2]
 decide
theorem sound_str {d:DD} (h:soundV d=true):d.v.s.size<=1048576:=by
 unfold soundV at h
 simp only[Bool.and_eq_true,Bool.or_eq_true,Bool.not_eq_true'] at h
 rcases h.1.1.1.1.1 with h|h
 ·exact none_str h
 ·exact good_str h
theorem kind_sound {d:DD} (h: ¬kindV d=0):soundV d=true:=by
 unfold kindV at h
 cases hs:soundV d
 ·rw[hs] at h
  exact absurd rfl h
 ·rfl
theorem or_str {v:VV} (h:v.s.size<=1048576):(orV v undV).s.size<=1048576:=by
 unfold orV
 cases thV v
 ·show undV.s.size<=1048576
  decide
 ·exact h
theorem fill_str {d:DD} (h:d.v.s.size<=1048576):(fillV d).v.s.size<=1048576:=by
 unfold fillV
 cases shapeV d==3
 ·exact or_str h
 ·exact h
end
section
open Go Go.Proofs Go.RowKit FM Tryz
structure Kp (w X:World) (l:List (Nat×PB)):Prop where
 below:Below w.heap.size w X
 all: ∀q∈l,w.heap.size<=q.1/\q.1<X.heap.size/\q.2.lies X q.1
 nd:(l.map (·.1)).Nodup
theorem Kp.of2 {w X:World} {p p2:PB} (h:Lie w X [p,p2]):Kp w X [(w.heap.size,p),(w.heap.size+1,p2)]:=
 ⟨h.below,fun q hq=>by
  have hs:=h.size
  simp at hs hq
  rcases hq with rfl|rfl
  ·exact⟨Nat.le_refl _,by show w.heap.size<X.heap.size;omega,h.holds.1⟩
  ·exact⟨Nat.le_succ _,by show w.heap.size+1<X.heap.size;omega,h.holds.2.1⟩,by simp⟩
theorem Kp.on {w X X1:World} {l:List (Nat×PB)} (h:Kp w X l) (hb:Below X.heap.size X X1):Kp w X1 l:=
 ⟨h.below.trans (hb.mono h.below.size),fun q hq=>⟨(h.all q hq).1,Nat.lt_of_lt_of_le (h.all q hq).2.1 hb.size,PB.on (h.all q hq).2.2 (h.all q hq).2.1 hb⟩,h.nd⟩
theorem Kp.drew {w X:World} {l:List (Nat×PB)} (h:Kp w X l):Kp w X.drew l:=⟨h.below.drew,fun q hq=>⟨(h.all q hq).1,(h.all q hq).2.1,PB.drew (h.all q hq).2.2⟩,h.nd⟩
theorem Kp.get {w X:World} {l:List (Nat×PB)} (h:Kp w X l) (i:Nat) {b:Nat} {p:PB} (hi:l[i]? =some (b,p)):p.lies X b:=(h.all _ (List.mem_of_getElem? hi)).2.2
theorem Kp.put {w X:World} {l:List (Nat×PB)} (h:Kp w X l) (i:Nat) {b:Nat} {d u:DD} (hi:l[i]? =some (b, .D d)):Kp w (X.setCells b 0 u.cs) (l.set i (b, .D u)):=by
 have hb:=h.all _ (List.mem_of_getElem? hi)
 have hlt:=(List.getElem?_eq_some_iff.1 hi).1
 refine⟨below_setCellsD (W:=X) hb.1 _ _ _ h.below,fun q hq=> ?_, ?_⟩
 ·rw[size_setCellsD]
  obtain⟨j,hj,rfl⟩:=List.mem_iff_getElem.1 hq
  by_cases hij:i=j
  ·subst hij
   rw[List.getElem_set_self]
   exact⟨hb.1,hb.2.1,Lies.setD hb.2.2⟩
  ·rw[List.getElem_set_ne hij]
   have hj':j<l.length:=by simpa using hj
   have ha:=h.all _ (List.getElem_mem hj')
   refine⟨ha.1,ha.2.1,PB.far ha.2.2 ?_⟩
   intro e
   have hn:=List.pairwise_iff_getElem.1 h.nd
   have hie:l[i].1=b:=by
    have:=(List.getElem?_eq_some_iff.1 hi).2
    rw[this]
   rcases Nat.lt_or_gt_of_ne hij with hlt2|hlt2
   ·exact hn i j (by simpa using hlt) (by simpa using hj') hlt2 (by simp[hie,e])
   ·exact hn j i (by simpa using hj') (by simpa using hlt) hlt2 (by simp[hie,e])
 ·rw[List.map_set]
  have:(l.map (·.1)).set i b=l.map (·.1):=by
   refine List.ext_getElem? fun j=> ?_
   by_cases hij:i=j
   ·subst hij
    have:=(List.getElem?_eq_some_iff.1 hi).2
    simp[hlt,this]
   ·rw[List.getElem?_set_ne hij]
  rw[this]
  exact h.nd

section
variable {md : Region.Mode} {ops : Array Oper} {Q : Exit → Act → World → Prop} {w0 w : World} {l : List (Nat × PB)} {fuel : Nat} {listed : Array Bool} {a : Act} {o : Oper}
theorem hload27 (i j:Nat) (dst:Option Tmp) {x:Operand} {b:Nat} {d:DD} (hi:ops[i]? =some o) (hs:Region.noSelect ops=true) (hf:Region.free md ops listed i=true) (hr:(Region.ready md ops listed).contains i=true)
  (hQ: ∀c a w,Q (.panic c) (a.put dst d.agg) w->Q (.panic c) a w) (hd:o.dst=dst) (hw:Region.wanted o (yielded ops a.tmps)=true) (ho:o.op= .load 53 x) (hx:a.eval x= .pointer (some ⟨b,0,none⟩)) (hl:l[j]? =some (b, .D d))
  (hS:Kp w0 w l) (h:wpAnyH prog md ops Q (fun X=>Kp w0 X l) fuel (listed.setIfInBounds i true) (a.put dst d.agg) w):wpAnyH prog md ops Q (fun X=>Kp w0 X l) (fuel+1) listed a w:=by
 subst hd
 obtain⟨t,hu,hd⟩:=isrow27
 exact wpAnyH_take hi hs hf hr hQ (yieldsIf_load_mid hw 53 x ho b 0 hx d.cs t (fun X hX=>Lies.range (hX.get j hl)) hu hd info53) hS h
theorem hpure (i:Nat) (dst:Option Tmp) (v:Value) (hi:ops[i]? =some o) (hs:Region.noSelect ops=true) (hf:Region.free md ops listed i=true) (hr:(Region.ready md ops listed).contains i=true)
  (hQ: ∀c a w,Q (.panic c) (a.put dst v) w->Q (.panic c) a w) (hd:o.dst=dst) (hw:Region.wanted o (yielded ops a.tmps)=true) (hy: ∀w,(execOp a.eval o).run prog w= .ok (.value v) w)
  (hS:Kp w0 w l) (h:wpAnyH prog md ops Q (fun X=>Kp w0 X l) fuel (listed.setIfInBounds i true) (a.put dst v) w):wpAnyH prog md ops Q (fun X=>Kp w0 X l) (fuel+1) listed a w:=by
 subst hd
 exact wpAnyH_take hi hs hf hr hQ (Or.inl ⟨hw,fun X _=>hy X⟩) hS h
theorem hskip (i:Nat) (dst:Option Tmp) (hi:ops[i]? =some o) (hs:Region.noSelect ops=true) (hf:Region.free md ops listed i=true) (hr:(Region.ready md ops listed).contains i=true)
  (hQ: ∀c a w,Q (.panic c) (a.put dst undef) w->Q (.panic c) a w) (hd:o.dst=dst) (hw:Region.wanted o (yielded ops a.tmps)=false)
  (hS:Kp w0 w l) (h:wpAnyH prog md ops Q (fun X=>Kp w0 X l) fuel (listed.setIfInBounds i true) (a.put dst undef) w):wpAnyH prog md ops Q (fun X=>Kp w0 X l) (fuel+1) listed a w:=by
 subst hd
 exact wpAnyH_take hi hs hf hr hQ (Or.inr ⟨hw,rfl⟩) hS h
theorem hcall (i:Nat) (dst:Option Tmp) {f:FuncId} {args:Array Value} {V:Value} (hi:ops[i]? =some o) (hr:Region.ready md ops listed= [i]) (hd:o.dst=dst) (hw:Region.wanted o (yielded ops a.tmps)=true)
  (he:(execOp a.eval o).run prog w= .ok (.enter f args) w) (hC:Calls prog f args w fun e w'=>e= .returned V/\Below w.heap.size w w') (hS:Kp w0 w l)
  (h: ∀X,Kp w0 X l->wpAnyH prog md ops Q (fun X=>Kp w0 X l) fuel (listed.setIfInBounds i true) (a.put dst V) X):wpAnyH prog md ops Q (fun X=>Kp w0 X l) (fuel+1) listed a w:=by
 subst hd
 refine wpAnyH_ready hr (by simp) (AllReadyH.cons hi (fun K hK=> ?_) AllReadyH.nil)
 rw[if_pos hw]
 unfold Oper.wp
 rw[he,Oper.upon_enter]
 refine hC.mono ?_
 rintro _ X ⟨rfl,hb⟩
 exact hK.out _ _ (hS.on hb) (fun hX=>h X hX)
end
end
section
open Go Go.Proofs Go.RowKit FM
theorem whole_kind {d:DD} (h:wholeV d=true): ¬kindV d=0:=by
 intro hk
 unfold wholeV at h
 rw[hk] at h
 simp at h
theorem eqB_self (v:VV):eqB v v=true:=by
 unfold eqB
 simp
end
section
open Go Go.Proofs Go.RowKit FM Tryz
def turnV (n d:DD):Bool:=shapeV d !=1 && shapeV d !=shapeV n
def forbV (n d:DD):Bool:=if d.c==2||d.e !=0 && d.e !=n.e||turnV n d then true else if shapeV n==3 then difV n.g d.g||difV n.s d.s else n.w==1 && (d.w==2||difV n.v d.v)
def becV (n d:DD):DD:=if turnV n d then fillV ⟨d.v,d.g,d.s,d.w,orT d.e n.e,orT d.c n.c⟩ else ⟨orV d.v n.v,orV d.g n.g,orV d.s n.s,orT d.w n.w,orT d.e n.e,orT d.c n.c⟩
theorem turns_00 (n d:DD) (hn:FD n) (hd:FD d) (h1:shapeV d=0) (h2:shapeV n=0) (w:World):Calls prog 115 #[n.agg,d.agg] w fun e w'=>e= .returned (.bool (turnV n d))/\Below w.heap.size w w':=by
 have HD:=hide (shape_any d hd)
 have HN:=hide (shape_any n hn)
 clear hn hd
 have LL:=hide (Kp.of2 (Lie.new2 w (.D n) (.D d)))
 unfold turnV
 rw[h1,h2]
 rw[h1] at HD
 rw[h2] at HN
 have hq0:=aggE n
 have hq1:=aggE d
 rw[hq0,hq1]
 clear hq0 hq1
 go_enter func115,ntmps115
 go_wp2_with fail
 refine wp_region_held_drew (P:=prog) (S:=fun X=>Kp w X [(w.heap.size, .D n),(w.heap.size+1, .D d)]) (by kernel_rfl) (Kp.drew (uh LL)) (fun hS0=> ?_)
 refine hload27 0 1 (some 5) (x:= .tmp 3) (b:=w.heap.size+1) (d:=d) rfl (by kernel_rfl) (by kernel_rfl) (by kernel_rfl) (fun _ _ _ h=>h) (by kernel_rfl) (by kernel_rfl) (by kernel_rfl) (by kernel_rfl) rfl hS0 ?_
 simp only[nn]
 refine hcall 1 (some 6) rfl (by kernel_rfl) (by kernel_rfl) (by kernel_rfl) (by kernel_rfl) (uh HD _) hS0 (fun uw1 hS1=> ?_)
 clear hS0
 simp only[nn]
 refine hpure 2 (some 7) (.bool true) rfl (by kernel_rfl) (by kernel_rfl) (by kernel_rfl) (fun _ _ _ h=>h) (by kernel_rfl) (by kernel_rfl) (fun _=>by kernel_rfl) hS1 ?_
 simp only[nn]
 refine hpure 3 (some 8) (.bool true) rfl (by kernel_rfl) (by kernel_rfl) (by kernel_rfl) (fun _ _ _ h=>h) (by kernel_rfl) (by kernel_rfl) (fun _=>by kernel_rfl) hS1 ?_
 simp only[nn]
 refine hload27 4 1 (some 9) (x:= .tmp 3) (b:=w.heap.size+1) (d:=d) rfl (by kernel_rfl) (by kernel_rfl) (by kernel_rfl) (fun _ _ _ h=>h) (by kernel_rfl) (by kernel_rfl) (by kernel_rfl) (by kernel_rfl) rfl hS1 ?_
 simp only[nn]
 refine hload27 6 0 (some 11) (x:= .tmp 2) (b:=w.heap.size) (d:=n) rfl (by kernel_rfl) (by kernel_rfl) (by kernel_rfl) (fun _ _ _ h=>h) (by kernel_rfl) (by kernel_rfl) (by kernel_rfl) (by kernel_rfl) rfl hS1 ?_
 simp only[nn]
 refine hcall 5 (some 10) rfl (by kernel_rfl) (by kernel_rfl) (by kernel_rfl) (by kernel_rfl) (uh HD _) hS1 (fun uw2 hS2=> ?_)
 clear hS1
 simp only[nn]
 refine hcall 7 (some 12) rfl (by kernel_rfl) (by kernel_rfl) (by kernel_rfl) (by kernel_rfl) (uh HN _) hS2 (fun uw3 hS3=> ?_)
 clear hS2
 simp only[nn]
 refine hpure 8 (some 13) (.bool false) rfl (by kernel_rfl) (by kernel_rfl) (by kernel_rfl) (fun _ _ _ h=>h) (by kernel_rfl) (by kernel_rfl) (fun _=>by kernel_rfl) hS3 ?_
 simp only[nn]
 refine hpure 9 (some 14) (.bool false) rfl (by kernel_rfl) (by kernel_rfl) (by kernel_rfl) (fun _ _ _ h=>h) (by kernel_rfl) (by kernel_rfl) (fun _=>by kernel_rfl) hS3 ?_
 simp only[nn]
 refine hpure 10 (some 4) (.bool false) rfl (by kernel_rfl) (by kernel_rfl) (by kernel_rfl) (fun _ _ _ h=>h) (by kernel_rfl) (by kernel_rfl) (fun _=>by kernel_rfl) hS3 ?_
 simp only[nn]
 refine wpAnyH_done (by kernel_rfl) ?_ _
 try simp only[nn]
 replace LL:=hide hS3
 clear hS3
 go_wp2_with fail
 go_ret
 exact⟨rfl,(uh LL).below⟩
theorem turns_01 (n d:DD) (hn:FD n) (hd:FD d) (h1:shapeV d=0) (h2:shapeV n=1) (w:World):Calls prog 115 #[n.agg,d.agg] w fun e w'=>e= .returned (.bool (turnV n d))/\Below w.heap.size w w':=by
 have HD:=hide (shape_any d hd)
 have HN:=hide (shape_any n hn)
 clear hn hd
 have LL:=hide (Kp.of2 (Lie.new2 w (.D n) (.D d)))
 unfold turnV
 rw[h1,h2]
 rw[h1] at HD
 rw[h2] at HN
 have hq0:=aggE n
 have hq1:=aggE d
 rw[hq0,hq1]
 clear hq0 hq1
 go_enter func115,ntmps115
 go_wp2_with fail
 refine wp_region_held_drew (P:=prog) (S:=fun X=>Kp w X [(w.heap.size, .D n),(w.heap.size+1, .D d)]) (by kernel_rfl) (Kp.drew (uh LL)) (fun hS0=> ?_)
 refine hload27 0 1 (some 5) (x:= .tmp 3) (b:=w.heap.size+1) (d:=d) rfl (by kernel_rfl) (by kernel_rfl) (by kernel_rfl) (fun _ _ _ h=>h) (by kernel_rfl) (by kernel_rfl) (by kernel_rfl) (by kernel_rfl) rfl hS0 ?_
 simp only[nn]
 refine hcall 1 (some 6) rfl (by kernel_rfl) (by kernel_rfl) (by kernel_rfl) (by kernel_rfl) (uh HD _) hS0 (fun uw1 hS1=> ?_)
 clear hS0
 simp only[nn]
 refine hpure 2 (some 7) (.bool true) rfl (by kernel_rfl) (by kernel_rfl) (by kernel_rfl) (fun _ _ _ h=>h) (by kernel_rfl) (by kernel_rfl) (fun _=>by kernel_rfl) hS1 ?_
 simp only[nn]
 refine hpure 3 (some 8) (.bool true) rfl (by kernel_rfl) (by kernel_rfl) (by kernel_rfl) (fun _ _ _ h=>h) (by kernel_rfl) (by kernel_rfl) (fun _=>by kernel_rfl) hS1 ?_
 simp only[nn]
 refine hload27 4 1 (some 9) (x:= .tmp 3) (b:=w.heap.size+1) (d:=d) rfl (by kernel_rfl) (by kernel_rfl) (by kernel_rfl) (fun _ _ _ h=>h) (by kernel_rfl) (by kernel_rfl) (by kernel_rfl) (by kernel_rfl) rfl hS1 ?_
 simp only[nn]
 refine hload27 6 0 (some 11) (x:= .tmp 2) (b:=w.heap.size) (d:=n) rfl (by kernel_rfl) (by kernel_rfl) (by kernel_rfl) (fun _ _ _ h=>h) (by kernel_rfl) (by kernel_rfl) (by kernel_rfl) (by kernel_rfl) rfl hS1 ?_
 simp only[nn]
 refine hcall 5 (some 10) rfl (by kernel_rfl) (by kernel_rfl) (by kernel_rfl) (by kernel_rfl) (uh HD _) hS1 (fun uw2 hS2=> ?_)
 clear hS1
 simp only[nn]
 refine hcall 7 (some 12) rfl (by kernel_rfl) (by kernel_rfl) (by kernel_rfl) (by kernel_rfl) (uh HN _) hS2 (fun uw3 hS3=> ?_)
 clear hS2
 simp only[nn]
 refine hpure 8 (some 13) (.bool true) rfl (by kernel_rfl) (by kernel_rfl) (by kernel_rfl) (fun _ _ _ h=>h) (by kernel_rfl) (by kernel_rfl) (fun _=>by kernel_rfl) hS3 ?_
 simp only[nn]
 refine hpure 9 (some 14) (.bool true) rfl (by kernel_rfl) (by kernel_rfl) (by kernel_rfl) (fun _ _ _ h=>h) (by kernel_rfl) (by kernel_rfl) (fun _=>by kernel_rfl) hS3 ?_
 simp only[nn]
 refine hpure 10 (some 4) (.bool true) rfl (by kernel_rfl) (by kernel_rfl) (by kernel_rfl) (fun _ _ _ h=>h) (by kernel_rfl) (by kernel_rfl) (fun _=>by kernel_rfl) hS3 ?_
 simp only[nn]
 refine wpAnyH_done (by kernel_rfl) ?_ _
 try simp only[nn]
 replace LL:=hide hS3
 clear hS3
 go_wp2_with fail
 go_ret
 exact⟨rfl,(uh LL).below⟩
theorem turns_02 (n d:DD) (hn:FD n) (hd:FD d) (h1:shapeV d=0) (h2:shapeV n=2) (w:World):Calls prog 115 #[n.agg,d.agg] w fun e w'=>e= .returned (.bool (turnV n d))/\Below w.heap.size w w':=by
 have HD:=hide (shape_any d hd)
 have HN:=hide (shape_any n hn)
 clear hn hd
 have LL:=hide (Kp.of2 (Lie.new2 w (.D n) (.D d)))
 unfold turnV
 rw[h1,h2]
 rw[h1] at HD
 rw[h2] at HN
 have hq0:=aggE n
 have hq1:=aggE d
 rw[hq0,hq1]
 clear hq0 hq1
 go_enter func115,ntmps115
 go_wp2_with fail
 refine wp_region_held_drew (P:=prog) (S:=fun X=>Kp w X [(w.heap.size, .D n),(w.heap.size+1, .D d)]) (by kernel_rfl) (Kp.drew (uh LL)) (fun hS0=> ?_)
 refine hload27 0 1 (some 5) (x:= .tmp 3) (b:=w.heap.size+1) (d:=d) rfl (by kernel_rfl) (by kernel_rfl) (by kernel_rfl) (fun _ _ _ h=>h) (by kernel_rfl) (by kernel_rfl) (by kernel_rfl) (by kernel_rfl) rfl hS0 ?_
 simp only[nn]
 refine hcall 1 (some 6) rfl (by kernel_rfl) (by kernel_rfl) (by kernel_rfl) (by kernel_rfl) (uh HD _) hS0 (fun uw1 hS1=> ?_)
 clear hS0
 simp only[nn]
 refine hpure 2 (some 7) (.bool true) rfl (by kernel_rfl) (by kernel_rfl) (by kernel_rfl) (fun _ _ _ h=>h) (by kernel_rfl) (by kernel_rfl) (fun _=>by kernel_rfl) hS1 ?_
 simp only[nn]
 refine hpure 3 (some 8) (.bool true) rfl (by kernel_rfl) (by kernel_rfl) (by kernel_rfl) (fun _ _ _ h=>h) (by kernel_rfl) (by kernel_rfl) (fun _=>by kernel_rfl) hS1 ?_
 simp only[nn]
 refine hload27 4 1 (some 9) (x:= .tmp 3) (b:=w.heap.size+1) (d:=d) rfl (by kernel_rfl) (by kernel_rfl) (by kernel_rfl) (fun _ _ _ h=>h) (by kernel_rfl) (by kernel_rfl) (by kernel_rfl) (by kernel_rfl) rfl hS1 ?_
 simp only[nn]
 refine hload27 6 0 (some 11) (x:= .tmp 2) (b:=w.heap.size) (d:=n) rfl (by kernel_rfl) (by kernel_rfl) (by kernel_rfl) (fun _ _ _ h=>h) (by kernel_rfl) (by kernel_rfl) (by kernel_rfl) (by kernel_rfl) rfl hS1 ?_
 simp only[nn]
 refine hcall 5 (some 10) rfl (by kernel_rfl) (by kernel_rfl) (by kernel_rfl) (by kernel_rfl) (uh HD _) hS1 (fun uw2 hS2=> ?_)
 clear hS1
 simp only[nn]
 refine hcall 7 (some 12) rfl (by kernel_rfl) (by kernel_rfl) (by kernel_rfl) (by kernel_rfl) (uh HN _) hS2 (fun uw3 hS3=> ?_)
 clear hS2
 simp only[nn]
 refine hpure 8 (some 13) (.bool true) rfl (by kernel_rfl) (by kernel_rfl) (by kernel_rfl) (fun _ _ _ h=>h) (by kernel_rfl) (by kernel_rfl) (fun _=>by kernel_rfl) hS3 ?_
 simp only[nn]
 refine hpure 9 (some 14) (.bool true) rfl (by kernel_rfl) (by kernel_rfl) (by kernel_rfl) (fun _ _ _ h=>h) (by kernel_rfl) (by kernel_rfl) (fun _=>by kernel_rfl) hS3 ?_
 simp only[nn]
 refine hpure 10 (some 4) (.bool true) rfl (by kernel_rfl) (by kernel_rfl) (by kernel_rfl) (fun _ _ _ h=>h) (by kernel_rfl) (by kernel_rfl) (fun _=>by kernel_rfl) hS3 ?_
 simp only[nn]
 refine wpAnyH_done (by kernel_rfl) ?_ _
 try simp only[nn]
 replace LL:=hide hS3
 clear hS3
 go_wp2_with fail
 go_ret
 exact⟨rfl,(uh LL).below⟩
theorem turns_03 (n d:DD) (hn:FD n) (hd:FD d) (h1:shapeV d=0) (h2:shapeV n=3) (w:World):Calls prog 115 #[n.agg,d.agg] w fun e w'=>e= .returned (.bool (turnV n d))/\Below w.heap.size w w':=by
 have HD:=hide (shape_any d hd)
 have HN:=hide (shape_any n hn)
 clear hn hd
 have LL:=hide (Kp.of2 (Lie.new2 w (.D n) (.D d)))
 unfold turnV
 rw[h1,h2]
 rw[h1] at HD
 rw[h2] at HN
 have hq0:=aggE n
 have hq1:=aggE d
 rw[hq0,hq1]
 clear hq0 hq1
 go_enter func115,ntmps115
 go_wp2_with fail
 refine wp_region_held_drew (P:=prog) (S:=fun X=>Kp w X [(w.heap.size, .D n),(w.heap.size+1, .D d)]) (by kernel_rfl) (Kp.drew (uh LL)) (fun hS0=> ?_)
 refine hload27 0 1 (some 5) (x:= .tmp 3) (b:=w.heap.size+1) (d:=d) rfl (by kernel_rfl) (by kernel_rfl) (by kernel_rfl) (fun _ _ _ h=>h) (by kernel_rfl) (by kernel_rfl) (by kernel_rfl) (by kernel_rfl) rfl hS0 ?_
 simp only[nn]
 refine hcall 1 (some 6) rfl (by kernel_rfl) (by kernel_rfl) (by kernel_rfl) (by kernel_rfl) (uh HD _) hS0 (fun uw1 hS1=> ?_)
 clear hS0
 simp only[nn]
 refine hpure 2 (some 7) (.bool true) rfl (by kernel_rfl) (by kernel_rfl) (by kernel_rfl) (fun _ _ _ h=>h) (by kernel_rfl) (by kernel_rfl) (fun _=>by kernel_rfl) hS1 ?_
 simp only[nn]
 refine hpure 3 (some 8) (.bool true) rfl (by kernel_rfl) (by kernel_rfl) (by kernel_rfl) (fun _ _ _ h=>h) (by kernel_rfl) (by kernel_rfl) (fun _=>by kernel_rfl) hS1 ?_
 simp only[nn]
 refine hload27 4 1 (some 9) (x:= .tmp 3) (b:=w.heap.size+1) (d:=d) rfl (by kernel_rfl) (by kernel_rfl) (by kernel_rfl) (fun _ _ _ h=>h) (by kernel_rfl) (by kernel_rfl) (by kernel_rfl) (by kernel_rfl) rfl hS1 ?_
 simp only[nn]
 refine hload27 6 0 (some 11) (x:= .tmp 2) (b:=w.heap.size) (d:=n) rfl (by kernel_rfl) (by kernel_rfl) (by kernel_rfl) (fun _ _ _ h=>h) (by kernel_rfl) (by kernel_rfl) (by kernel_rfl) (by kernel_rfl) rfl hS1 ?_
 simp only[nn]
 refine hcall 5 (some 10) rfl (by kernel_rfl) (by kernel_rfl) (by kernel_rfl) (by kernel_rfl) (uh HD _) hS1 (fun uw2 hS2=> ?_)
 clear hS1
 simp only[nn]
 refine hcall 7 (some 12) rfl (by kernel_rfl) (by kernel_rfl) (by kernel_rfl) (by kernel_rfl) (uh HN _) hS2 (fun uw3 hS3=> ?_)
 clear hS2
 simp only[nn]
 refine hpure 8 (some 13) (.bool true) rfl (by kernel_rfl) (by kernel_rfl) (by kernel_rfl) (fun _ _ _ h=>h) (by kernel_rfl) (by kernel_rfl) (fun _=>by kernel_rfl) hS3 ?_
 simp only[nn]
 refine hpure 9 (some 14) (.bool true) rfl (by kernel_rfl) (by kernel_rfl) (by kernel_rfl) (fun _ _ _ h=>h) (by kernel_rfl) (by kernel_rfl) (fun _=>by kernel_rfl) hS3 ?_
 simp only[nn]
 refine hpure 10 (some 4) (.bool true) rfl (by kernel_rfl) (by kernel_rfl) (by kernel_rfl) (fun _ _ _ h=>h) (by kernel_rfl) (by kernel_rfl) (fun _=>by kernel_rfl) hS3 ?_
 simp only[nn]
 refine wpAnyH_done (by kernel_rfl) ?_ _
 try simp only[nn]
 replace LL:=hide hS3
 clear hS3
 go_wp2_with fail
 go_ret
 exact⟨rfl,(uh LL).below⟩
theorem turns_1 (n d:DD) (hn:FD n) (hd:FD d) (h1:shapeV d=1) (w:World):Calls prog 115 #[n.agg,d.agg] w fun e w'=>e= .returned (.bool (turnV n d))/\Below w.heap.size w w':=by
 have HD:=hide (shape_any d hd)
 have HN:=hide (shape_any n hn)
 clear hn hd
 have LL:=hide (Kp.of2 (Lie.new2 w (.D n) (.D d)))
 unfold turnV
 rw[h1]
 rw[h1] at HD
 have hq0:=aggE n
 have hq1:=aggE d
 rw[hq0,hq1]
 clear hq0 hq1
 go_enter func115,ntmps115
 go_wp2_with fail
 refine wp_region_held_drew (P:=prog) (S:=fun X=>Kp w X [(w.heap.size, .D n),(w.heap.size+1, .D d)]) (by kernel_rfl) (Kp.drew (uh LL)) (fun hS0=> ?_)
 refine hload27 0 1 (some 5) (x:= .tmp 3) (b:=w.heap.size+1) (d:=d) rfl (by kernel_rfl) (by kernel_rfl) (by kernel_rfl) (fun _ _ _ h=>h) (by kernel_rfl) (by kernel_rfl) (by kernel_rfl) (by kernel_rfl) rfl hS0 ?_
 simp only[nn]
 refine hcall 1 (some 6) rfl (by kernel_rfl) (by kernel_rfl) (by kernel_rfl) (by kernel_rfl) (uh HD _) hS0 (fun uw1 hS1=> ?_)
 clear hS0
 simp only[nn]
 refine hpure 2 (some 7) (.bool false) rfl (by kernel_rfl) (by kernel_rfl) (by kernel_rfl) (fun _ _ _ h=>h) (by kernel_rfl) (by kernel_rfl) (fun _=>by kernel_rfl) hS1 ?_
 simp only[nn]
 refine hpure 3 (some 8) (.bool false) rfl (by kernel_rfl) (by kernel_rfl) (by kernel_rfl) (fun _ _ _ h=>h) (by kernel_rfl) (by kernel_rfl) (fun _=>by kernel_rfl) hS1 ?_
 simp only[nn]
 refine hskip 4 (some 9) rfl (by kernel_rfl) (by kernel_rfl) (by kernel_rfl) (fun _ _ _ h=>h) (by kernel_rfl) (by kernel_rfl) hS1 ?_
 simp only[nn]
 refine hskip 5 (some 10) rfl (by kernel_rfl) (by kernel_rfl) (by kernel_rfl) (fun _ _ _ h=>h) (by kernel_rfl) (by kernel_rfl) hS1 ?_
 simp only[nn]
 refine hskip 6 (some 11) rfl (by kernel_rfl) (by kernel_rfl) (by kernel_rfl) (fun _ _ _ h=>h) (by kernel_rfl) (by kernel_rfl) hS1 ?_
 simp only[nn]
 refine hskip 7 (some 12) rfl (by kernel_rfl) (by kernel_rfl) (by kernel_rfl) (fun _ _ _ h=>h) (by kernel_rfl) (by kernel_rfl) hS1 ?_
 simp only[nn]
 refine hskip 8 (some 13) rfl (by kernel_rfl) (by kernel_rfl) (by kernel_rfl) (fun _ _ _ h=>h) (by kernel_rfl) (by kernel_rfl) hS1 ?_
 simp only[nn]
 refine hpure 9 (some 14) (.bool false) rfl (by kernel_rfl) (by kernel_rfl) (by kernel_rfl) (fun _ _ _ h=>h) (by kernel_rfl) (by kernel_rfl) (fun _=>by kernel_rfl) hS1 ?_
 simp only[nn]
 refine hpure 10 (some 4) (.bool false) rfl (by kernel_rfl) (by kernel_rfl) (by kernel_rfl) (fun _ _ _ h=>h) (by kernel_rfl) (by kernel_rfl) (fun _=>by kernel_rfl) hS1 ?_
 simp only[nn]
 refine wpAnyH_done (by kernel_rfl) ?_ _
 try simp only[nn]
 replace LL:=hide hS1
 clear hS1
 go_wp2_with fail
 go_ret
 exact⟨rfl,(uh LL).below⟩
theorem turns_20 (n d:DD) (hn:FD n) (hd:FD d) (h1:shapeV d=2) (h2:shapeV n=0) (w:World):Calls prog 115 #[n.agg,d.agg] w fun e w'=>e= .returned (.bool (turnV n d))/\Below w.heap.size w w':=by
 have HD:=hide (shape_any d hd)
 have HN:=hide (shape_any n hn)
 clear hn hd
 have LL:=hide (Kp.of2 (Lie.new2 w (.D n) (.D d)))
 unfold turnV
 rw[h1,h2]
 rw[h1] at HD
 rw[h2] at HN
 have hq0:=aggE n
 have hq1:=aggE d
 rw[hq0,hq1]
 clear hq0 hq1
 go_enter func115,ntmps115
 go_wp2_with fail
 refine wp_region_held_drew (P:=prog) (S:=fun X=>Kp w X [(w.heap.size, .D n),(w.heap.size+1, .D d)]) (by kernel_rfl) (Kp.drew (uh LL)) (fun hS0=> ?_)
 refine hload27 0 1 (some 5) (x:= .tmp 3) (b:=w.heap.size+1) (d:=d) rfl (by kernel_rfl) (by kernel_rfl) (by kernel_rfl) (fun _ _ _ h=>h) (by kernel_rfl) (by kernel_rfl) (by kernel_rfl) (by kernel_rfl) rfl hS0 ?_
 simp only[nn]
 refine hcall 1 (some 6) rfl (by kernel_rfl) (by kernel_rfl) (by kernel_rfl) (by kernel_rfl) (uh HD _) hS0 (fun uw1 hS1=> ?_)
 clear hS0
 simp only[nn]
 refine hpure 2 (some 7) (.bool true) rfl (by kernel_rfl) (by kernel_rfl) (by kernel_rfl) (fun _ _ _ h=>h) (by kernel_rfl) (by kernel_rfl) (fun _=>by kernel_rfl) hS1 ?_
 simp only[nn]
 refine hpure 3 (some 8) (.bool true) rfl (by kernel_rfl) (by kernel_rfl) (by kernel_rfl) (fun _ _ _ h=>h) (by kernel_rfl) (by kernel_rfl) (fun _=>by kernel_rfl) hS1 ?_
 simp only[nn]
 refine hload27 4 1 (some 9) (x:= .tmp 3) (b:=w.heap.size+1) (d:=d) rfl (by kernel_rfl) (by kernel_rfl) (by kernel_rfl) (fun _ _ _ h=>h) (by kernel_rfl) (by kernel_rfl) (by kernel_rfl) (by kernel_rfl) rfl hS1 ?_
 simp only[nn]
 refine hload27 6 0 (some 11) (x:= .tmp 2) (b:=w.heap.size) (d:=n) rfl (by kernel_rfl) (by kernel_rfl) (by kernel_rfl) (fun _ _ _ h=>h) (by kernel_rfl) (by kernel_rfl) (by kernel_rfl) (by kernel_rfl) rfl hS1 ?_
 simp only[nn]
 refine hcall 5 (some 10) rfl (by kernel_rfl) (by kernel_rfl) (by kernel_rfl) (by kernel_rfl) (uh HD _) hS1 (fun uw2 hS2=> ?_)
 clear hS1
 simp only[nn]
 refine hcall 7 (some 12) rfl (by kernel_rfl) (by kernel_rfl) (by kernel_rfl) (by kernel_rfl) (uh HN _) hS2 (fun uw3 hS3=> ?_)
 clear hS2
 simp only[nn]
 refine hpure 8 (some 13) (.bool true) rfl (by kernel_rfl) (by kernel_rfl) (by kernel_rfl) (fun _ _ _ h=>h) (by kernel_rfl) (by kernel_rfl) (fun _=>by kernel_rfl) hS3 ?_
 simp only[nn]
 refine hpure 9 (some 14) (.bool true) rfl (by kernel_rfl) (by kernel_rfl) (by kernel_rfl) (fun _ _ _ h=>h) (by kernel_rfl) (by kernel_rfl) (fun _=>by kernel_rfl) hS3 ?_
 simp only[nn]
 refine hpure 10 (some 4) (.bool true) rfl (by kernel_rfl) (by kernel_rfl) (by kernel_rfl) (fun _ _ _ h=>h) (by kernel_rfl) (by kernel_rfl) (fun _=>by kernel_rfl) hS3 ?_
 simp only[nn]
 refine wpAnyH_done (by kernel_rfl) ?_ _
 try simp only[nn]
 replace LL:=hide hS3
 clear hS3
 go_wp2_with fail
 go_ret
 exact⟨rfl,(uh LL).below⟩
theorem turns_21 (n d:DD) (hn:FD n) (hd:FD d) (h1:shapeV d=2) (h2:shapeV n=1) (w:World):Calls prog 115 #[n.agg,d.agg] w fun e w'=>e= .returned (.bool (turnV n d))/\Below w.heap.size w w':=by
 have HD:=hide (shape_any d hd)
 have HN:=hide (shape_any n hn)
 clear hn hd
 have LL:=hide (Kp.of2 (Lie.new2 w (.D n) (.D d)))
 unfold turnV
 rw[h1,h2]
 rw[h1] at HD
 rw[h2] at HN
 have hq0:=aggE n
 have hq1:=aggE d
 rw[hq0,hq1]
 clear hq0 hq1
 go_enter func115,ntmps115
 go_wp2_with fail
 refine wp_region_held_drew (P:=prog) (S:=fun X=>Kp w X [(w.heap.size, .D n),(w.heap.size+1, .D d)]) (by kernel_rfl) (Kp.drew (uh LL)) (fun hS0=> ?_)
 refine hload27 0 1 (some 5) (x:= .tmp 3) (b:=w.heap.size+1) (d:=d) rfl (by kernel_rfl) (by kernel_rfl) (by kernel_rfl) (fun _ _ _ h=>h) (by kernel_rfl) (by kernel_rfl) (by kernel_rfl) (by kernel_rfl) rfl hS0 ?_
 simp only[nn]
 refine hcall 1 (some 6) rfl (by kernel_rfl) (by kernel_rfl) (by kernel_rfl) (by kernel_rfl) (uh HD _) hS0 (fun uw1 hS1=> ?_)
 clear hS0
 simp only[nn]
 refine hpure 2 (some 7) (.bool true) rfl (by kernel_rfl) (by kernel_rfl) (by kernel_rfl) (fun _ _ _ h=>h) (by kernel_rfl) (by kernel_rfl) (fun _=>by kernel_rfl) hS1 ?_
 simp only[nn]
 refine hpure 3 (some 8) (.bool true) rfl (by kernel_rfl) (by kernel_rfl) (by kernel_rfl) (fun _ _ _ h=>h) (by kernel_rfl) (by kernel_rfl) (fun _=>by kernel_rfl) hS1 ?_
 simp only[nn]
 refine hload27 4 1 (some 9) (x:= .tmp 3) (b:=w.heap.size+1) (d:=d) rfl (by kernel_rfl) (by kernel_rfl) (by kernel_rfl) (fun _ _ _ h=>h) (by kernel_rfl) (by kernel_rfl) (by kernel_rfl) (by kernel_rfl) rfl hS1 ?_
 simp only[nn]
 refine hload27 6 0 (some 11) (x:= .tmp 2) (b:=w.heap.size) (d:=n) rfl (by kernel_rfl) (by kernel_rfl) (by kernel_rfl) (fun _ _ _ h=>h) (by kernel_rfl) (by kernel_rfl) (by kernel_rfl) (by kernel_rfl) rfl hS1 ?_
 simp only[nn]
 refine hcall 5 (some 10) rfl (by kernel_rfl) (by kernel_rfl) (by kernel_rfl) (by kernel_rfl) (uh HD _) hS1 (fun uw2 hS2=> ?_)
 clear hS1
 simp only[nn]
 refine hcall 7 (some 12) rfl (by kernel_rfl) (by kernel_rfl) (by kernel_rfl) (by kernel_rfl) (uh HN _) hS2 (fun uw3 hS3=> ?_)
 clear hS2
 simp only[nn]
 refine hpure 8 (some 13) (.bool true) rfl (by kernel_rfl) (by kernel_rfl) (by kernel_rfl) (fun _ _ _ h=>h) (by kernel_rfl) (by kernel_rfl) (fun _=>by kernel_rfl) hS3 ?_
 simp only[nn]
 refine hpure 9 (some 14) (.bool true) rfl (by kernel_rfl) (by kernel_rfl) (by kernel_rfl) (fun _ _ _ h=>h) (by kernel_rfl) (by kernel_rfl) (fun _=>by kernel_rfl) hS3 ?_
 simp only[nn]
 refine hpure 10 (some 4) (.bool true) rfl (by kernel_rfl) (by kernel_rfl) (by kernel_rfl) (fun _ _ _ h=>h) (by kernel_rfl) (by kernel_rfl) (fun _=>by kernel_rfl) hS3 ?_
 simp only[nn]
 refine wpAnyH_done (by kernel_rfl) ?_ _
 try simp only[nn]
 replace LL:=hide hS3
 clear hS3
 go_wp2_with fail
 go_ret
 exact⟨rfl,(uh LL).below⟩
theorem turns_22 (n d:DD) (hn:FD n) (hd:FD d) (h1:shapeV d=2) (h2:shapeV n=2) (w:World):Calls prog 115 #[n.agg,d.agg] w fun e w'=>e= .returned (.bool (turnV n d))/\Below w.heap.size w w':=by
 have HD:=hide (shape_any d hd)
 have HN:=hide (shape_any n hn)
 clear hn hd
 have LL:=hide (Kp.of2 (Lie.new2 w (.D n) (.D d)))
 unfold turnV
 rw[h1,h2]
 rw[h1] at HD
 rw[h2] at HN
 have hq0:=aggE n
 have hq1:=aggE d
 rw[hq0,hq1]
 clear hq0 hq1
 go_enter func115,ntmps115
 go_wp2_with fail
 refine wp_region_held_drew (P:=prog) (S:=fun X=>Kp w X [(w.heap.size, .D n),(w.heap.size+1, .D d)]) (by kernel_rfl) (Kp.drew (uh LL)) (fun hS0=> ?_)
 refine hload27 0 1 (some 5) (x:= .tmp 3) (b:=w.heap.size+1) (d:=d) rfl (by kernel_rfl) (by kernel_rfl) (by kernel_rfl) (fun _ _ _ h=>h) (by kernel_rfl) (by kernel_rfl) (by kernel_rfl) (by kernel_rfl) rfl hS0 ?_
 simp only[nn]
 refine hcall 1 (some 6) rfl (by kernel_rfl) (by kernel_rfl) (by kernel_rfl) (by kernel_rfl) (uh HD _) hS0 (fun uw1 hS1=> ?_)
 clear hS0
 simp only[nn]
 refine hpure 2 (some 7) (.bool true) rfl (by kernel_rfl) (by kernel_rfl) (by kernel_rfl) (fun _ _ _ h=>h) (by kernel_rfl) (by kernel_rfl) (fun _=>by kernel_rfl) hS1 ?_
 simp only[nn]
 refine hpure 3 (some 8) (.bool true) rfl (by kernel_rfl) (by kernel_rfl) (by kernel_rfl) (fun _ _ _ h=>h) (by kernel_rfl) (by kernel_rfl) (fun _=>by kernel_rfl) hS1 ?_
 simp only[nn]
 refine hload27 4 1 (some 9) (x:= .tmp 3) (b:=w.heap.size+1) (d:=d) rfl (by kernel_rfl) (by kernel_rfl) (by kernel_rfl) (fun _ _ _ h=>h) (by kernel_rfl) (by kernel_rfl) (by kernel_rfl) (by kernel_rfl) rfl hS1 ?_
 simp only[nn]
 refine hload27 6 0 (some 11) (x:= .tmp 2) (b:=w.heap.size) (d:=n) rfl (by kernel_rfl) (by kernel_rfl) (by kernel_rfl) (fun _ _ _ h=>h) (by kernel_rfl) (by kernel_rfl) (by kernel_rfl) (by kernel_rfl) rfl hS1 ?_
 simp only[nn]
 refine hcall 5 (some 10) rfl (by kernel_rfl) (by kernel_rfl) (by kernel_rfl) (by kernel_rfl) (uh HD _) hS1 (fun uw2 hS2=> ?_)
 clear hS1
 simp only[nn]
 refine hcall 7 (some 12) rfl (by kernel_rfl) (by kernel_rfl) (by kernel_rfl) (by kernel_rfl) (uh HN _) hS2 (fun uw3 hS3=> ?_)
 clear hS2
 simp only[nn]
 refine hpure 8 (some 13) (.bool false) rfl (by kernel_rfl) (by kernel_rfl) (by kernel_rfl) (fun _ _ _ h=>h) (by kernel_rfl) (by kernel_rfl) (fun _=>by kernel_rfl) hS3 ?_
 simp only[nn]
 refine hpure 9 (some 14) (.bool false) rfl (by kernel_rfl) (by kernel_rfl) (by kernel_rfl) (fun _ _ _ h=>h) (by kernel_rfl) (by kernel_rfl) (fun _=>by kernel_rfl) hS3 ?_
 simp only[nn]
 refine hpure 10 (some 4) (.bool false) rfl (by kernel_rfl) (by kernel_rfl) (by kernel_rfl) (fun _ _ _ h=>h) (by kernel_rfl) (by kernel_rfl) (fun _=>by kernel_rfl) hS3 ?_
 simp only[nn]
 refine wpAnyH_done (by kernel_rfl) ?_ _
 try simp only[nn]
 replace LL:=hide hS3
 clear hS3
 go_wp2_with fail
 go_ret
 exact⟨rfl,(uh LL).below⟩
theorem turns_23 (n d:DD) (hn:FD n) (hd:FD d) (h1:shapeV d=2) (h2:shapeV n=3) (w:World):Calls prog 115 #[n.agg,d.agg] w fun e w'=>e= .returned (.bool (turnV n d))/\Below w.heap.size w w':=by
 have HD:=hide (shape_any d hd)
 have HN:=hide (shape_any n hn)
 clear hn hd
 have LL:=hide (Kp.of2 (Lie.new2 w (.D n) (.D d)))
 unfold turnV
 rw[h1,h2]
 rw[h1] at HD
 rw[h2] at HN
 have hq0:=aggE n
 have hq1:=aggE d
 rw[hq0,hq1]
 clear hq0 hq1
 go_enter func115,ntmps115
 go_wp2_with fail
 refine wp_region_held_drew (P:=prog) (S:=fun X=>Kp w X [(w.heap.size, .D n),(w.heap.size+1, .D d)]) (by kernel_rfl) (Kp.drew (uh LL)) (fun hS0=> ?_)
 refine hload27 0 1 (some 5) (x:= .tmp 3) (b:=w.heap.size+1) (d:=d) rfl (by kernel_rfl) (by kernel_rfl) (by kernel_rfl) (fun _ _ _ h=>h) (by kernel_rfl) (by kernel_rfl) (by kernel_rfl) (by kernel_rfl) rfl hS0 ?_
 simp only[nn]
 refine hcall 1 (some 6) rfl (by kernel_rfl) (by kernel_rfl) (by kernel_rfl) (by kernel_rfl) (uh HD _) hS0 (fun uw1 hS1=> ?_)
 clear hS0
 simp only[nn]
 refine hpure 2 (some 7) (.bool true) rfl (by kernel_rfl) (by kernel_rfl) (by kernel_rfl) (fun _ _ _ h=>h) (by kernel_rfl) (by kernel_rfl) (fun _=>by kernel_rfl) hS1 ?_
 simp only[nn]
 refine hpure 3 (some 8) (.bool true) rfl (by kernel_rfl) (by kernel_rfl) (by kernel_rfl) (fun _ _ _ h=>h) (by kernel_rfl) (by kernel_rfl) (fun _=>by kernel_rfl) hS1 ?_
 simp only[nn]
 refine hload27 4 1 (some 9) (x:= .tmp 3) (b:=w.heap.size+1) (d:=d) rfl (by kernel_rfl) (by kernel_rfl) (by kernel_rfl) (fun _ _ _ h=>h) (by kernel_rfl) (by kernel_rfl) (by kernel_rfl) (by kernel_rfl) rfl hS1 ?_
 simp only[nn]
 refine hload27 6 0 (some 11) (x:= .tmp 2) (b:=w.heap.size) (d:=n) rfl (by kernel_rfl) (by kernel_rfl) (by kernel_rfl) (fun _ _ _ h=>h) (by kernel_rfl) (by kernel_rfl) (by kernel_rfl) (by kernel_rfl) rfl hS1 ?_
 simp only[nn]
 refine hcall 5 (some 10) rfl (by kernel_rfl) (by kernel_rfl) (by kernel_rfl) (by kernel_rfl) (uh HD _) hS1 (fun uw2 hS2=> ?_)
 clear hS1
 simp only[nn]
 refine hcall 7 (some 12) rfl (by kernel_rfl) (by kernel_rfl) (by kernel_rfl) (by kernel_rfl) (uh HN _) hS2 (fun uw3 hS3=> ?_)
 clear hS2
 simp only[nn]
 refine hpure 8 (some 13) (.bool true) rfl (by kernel_rfl) (by kernel_rfl) (by kernel_rfl) (fun _ _ _ h=>h) (by kernel_rfl) (by kernel_rfl) (fun _=>by kernel_rfl) hS3 ?_
 simp only[nn]
 refine hpure 9 (some 14) (.bool true) rfl (by kernel_rfl) (by kernel_rfl) (by kernel_rfl) (fun _ _ _ h=>h) (by kernel_rfl) (by kernel_rfl) (fun _=>by kernel_rfl) hS3 ?_
 simp only[nn]
 refine hpure 10 (some 4) (.bool true) rfl (by kernel_rfl) (by kernel_rfl) (by kernel_rfl) (fun _ _ _ h=>h) (by kernel_rfl) (by kernel_rfl) (fun _=>by kernel_rfl) hS3 ?_
 simp only[nn]
 refine wpAnyH_done (by kernel_rfl) ?_ _
 try simp only[nn]
 replace LL:=hide hS3
 clear hS3
 go_wp2_with fail
 go_ret
 exact⟨rfl,(uh LL).below⟩
theorem turns_30 (n d:DD) (hn:FD n) (hd:FD d) (h1:shapeV d=3) (h2:shapeV n=0) (w:World):Calls prog 115 #[n.agg,d.agg] w fun e w'=>e= .returned (.bool (turnV n d))/\Below w.heap.size w w':=by
 have HD:=hide (shape_any d hd)
 have HN:=hide (shape_any n hn)
 clear hn hd
 have LL:=hide (Kp.of2 (Lie.new2 w (.D n) (.D d)))
 unfold turnV
 rw[h1,h2]
 rw[h1] at HD
 rw[h2] at HN
 have hq0:=aggE n
 have hq1:=aggE d
 rw[hq0,hq1]
 clear hq0 hq1
 go_enter func115,ntmps115
 go_wp2_with fail
 refine wp_region_held_drew (P:=prog) (S:=fun X=>Kp w X [(w.heap.size, .D n),(w.heap.size+1, .D d)]) (by kernel_rfl) (Kp.drew (uh LL)) (fun hS0=> ?_)
 refine hload27 0 1 (some 5) (x:= .tmp 3) (b:=w.heap.size+1) (d:=d) rfl (by kernel_rfl) (by kernel_rfl) (by kernel_rfl) (fun _ _ _ h=>h) (by kernel_rfl) (by kernel_rfl) (by kernel_rfl) (by kernel_rfl) rfl hS0 ?_
 simp only[nn]
 refine hcall 1 (some 6) rfl (by kernel_rfl) (by kernel_rfl) (by kernel_rfl) (by kernel_rfl) (uh HD _) hS0 (fun uw1 hS1=> ?_)
 clear hS0
 simp only[nn]
 refine hpure 2 (some 7) (.bool true) rfl (by kernel_rfl) (by kernel_rfl) (by kernel_rfl) (fun _ _ _ h=>h) (by kernel_rfl) (by kernel_rfl) (fun _=>by kernel_rfl) hS1 ?_
 simp only[nn]
 refine hpure 3 (some 8) (.bool true) rfl (by kernel_rfl) (by kernel_rfl) (by kernel_rfl) (fun _ _ _ h=>h) (by kernel_rfl) (by kernel_rfl) (fun _=>by kernel_rfl) hS1 ?_
 simp only[nn]
 refine hload27 4 1 (some 9) (x:= .tmp 3) (b:=w.heap.size+1) (d:=d) rfl (by kernel_rfl) (by kernel_rfl) (by kernel_rfl) (fun _ _ _ h=>h) (by kernel_rfl) (by kernel_rfl) (by kernel_rfl) (by kernel_rfl) rfl hS1 ?_
 simp only[nn]
 refine hload27 6 0 (some 11) (x:= .tmp 2) (b:=w.heap.size) (d:=n) rfl (by kernel_rfl) (by kernel_rfl) (by kernel_rfl) (fun _ _ _ h=>h) (by kernel_rfl) (by kernel_rfl) (by kernel_rfl) (by kernel_rfl) rfl hS1 ?_
 simp only[nn]
 refine hcall 5 (some 10) rfl (by kernel_rfl) (by kernel_rfl) (by kernel_rfl) (by kernel_rfl) (uh HD _) hS1 (fun uw2 hS2=> ?_)
 clear hS1
 simp only[nn]
 refine hcall 7 (some 12) rfl (by kernel_rfl) (by kernel_rfl) (by kernel_rfl) (by kernel_rfl) (uh HN _) hS2 (fun uw3 hS3=> ?_)
 clear hS2
 simp only[nn]
 refine hpure 8 (some 13) (.bool true) rfl (by kernel_rfl) (by kernel_rfl) (by kernel_rfl) (fun _ _ _ h=>h) (by kernel_rfl) (by kernel_rfl) (fun _=>by kernel_rfl) hS3 ?_
 simp only[nn]
 refine hpure 9 (some 14) (.bool true) rfl (by kernel_rfl) (by kernel_rfl) (by kernel_rfl) (fun _ _ _ h=>h) (by kernel_rfl) (by kernel_rfl) (fun _=>by kernel_rfl) hS3 ?_
 simp only[nn]
 refine hpure 10 (some 4) (.bool true) rfl (by kernel_rfl) (by kernel_rfl) (by kernel_rfl) (fun _ _ _ h=>h) (by kernel_rfl) (by kernel_rfl) (fun _=>by kernel_rfl) hS3 ?_
 simp only[nn]
 refine wpAnyH_done (by kernel_rfl) ?_ _
 try simp only[nn]
 replace LL:=hide hS3
 clear hS3
 go_wp2_with fail
 go_ret
 exact⟨rfl,(uh LL).below⟩
theorem turns_31 (n d:DD) (hn:FD n) (hd:FD d) (h1:shapeV d=3) (h2:shapeV n=1) (w:World):Calls prog 115 #[n.agg,d.agg] w fun e w'=>e= .returned (.bool (turnV n d))/\Below w.heap.size w w':=by
 have HD:=hide (shape_any d hd)
 have HN:=hide (shape_any n hn)
 clear hn hd
 have LL:=hide (Kp.of2 (Lie.new2 w (.D n) (.D d)))
 unfold turnV
 rw[h1,h2]
 rw[h1] at HD
 rw[h2] at HN
 have hq0:=aggE n
 have hq1:=aggE d
 rw[hq0,hq1]
 clear hq0 hq1
 go_enter func115,ntmps115
 go_wp2_with fail
 refine wp_region_held_drew (P:=prog) (S:=fun X=>Kp w X [(w.heap.size, .D n),(w.heap.size+1, .D d)]) (by kernel_rfl) (Kp.drew (uh LL)) (fun hS0=> ?_)
 refine hload27 0 1 (some 5) (x:= .tmp 3) (b:=w.heap.size+1) (d:=d) rfl (by kernel_rfl) (by kernel_rfl) (by kernel_rfl) (fun _ _ _ h=>h) (by kernel_rfl) (by kernel_rfl) (by kernel_rfl) (by kernel_rfl) rfl hS0 ?_
 simp only[nn]
 refine hcall 1 (some 6) rfl (by kernel_rfl) (by kernel_rfl) (by kernel_rfl) (by kernel_rfl) (uh HD _) hS0 (fun uw1 hS1=> ?_)
 clear hS0
 simp only[nn]
 refine hpure 2 (some 7) (.bool true) rfl (by kernel_rfl) (by kernel_rfl) (by kernel_rfl) (fun _ _ _ h=>h) (by kernel_rfl) (by kernel_rfl) (fun _=>by kernel_rfl) hS1 ?_
 simp only[nn]
 refine hpure 3 (some 8) (.bool true) rfl (by kernel_rfl) (by kernel_rfl) (by kernel_rfl) (fun _ _ _ h=>h) (by kernel_rfl) (by kernel_rfl) (fun _=>by kernel_rfl) hS1 ?_
 simp only[nn]
 refine hload27 4 1 (some 9) (x:= .tmp 3) (b:=w.heap.size+1) (d:=d) rfl (by kernel_rfl) (by kernel_rfl) (by kernel_rfl) (fun _ _ _ h=>h) (by kernel_rfl) (by kernel_rfl) (by kernel_rfl) (by kernel_rfl) rfl hS1 ?_
 simp only[nn]
 refine hload27 6 0 (some 11) (x:= .tmp 2) (b:=w.heap.size) (d:=n) rfl (by kernel_rfl) (by kernel_rfl) (by kernel_rfl) (fun _ _ _ h=>h) (by kernel_rfl) (by kernel_rfl) (by kernel_rfl) (by kernel_rfl) rfl hS1 ?_
 simp only[nn]
 refine hcall 5 (some 10) rfl (by kernel_rfl) (by kernel_rfl) (by kernel_rfl) (by kernel_rfl) (uh HD _) hS1 (fun uw2 hS2=> ?_)
 clear hS1
 simp only[nn]
 refine hcall 7 (some 12) rfl (by kernel_rfl) (by kernel_rfl) (by kernel_rfl) (by kernel_rfl) (uh HN _) hS2 (fun uw3 hS3=> ?_)
 clear hS2
 simp only[nn]
 refine hpure 8 (some 13) (.bool true) rfl (by kernel_rfl) (by kernel_rfl) (by kernel_rfl) (fun _ _ _ h=>h) (by kernel_rfl) (by kernel_rfl) (fun _=>by kernel_rfl) hS3 ?_
 simp only[nn]
 refine hpure 9 (some 14) (.bool true) rfl (by kernel_rfl) (by kernel_rfl) (by kernel_rfl) (fun _ _ _ h=>h) (by kernel_rfl) (by kernel_rfl) (fun _=>by kernel_rfl) hS3 ?_
 simp only[nn]
 refine hpure 10 (some 4) (.bool true) rfl (by kernel_rfl) (by kernel_rfl) (by kernel_rfl) (fun _ _ _ h=>h) (by kernel_rfl) (by kernel_rfl) (fun _=>by kernel_rfl) hS3 ?_
 simp only[nn]
 refine wpAnyH_done (by kernel_rfl) ?_ _
 try simp only[nn]
 replace LL:=hide hS3
 clear hS3
 go_wp2_with fail
 go_ret
 exact⟨rfl,(uh LL).below⟩
theorem turns_32 (n d:DD) (hn:FD n) (hd:FD d) (h1:shapeV d=3) (h2:shapeV n=2) (w:World):Calls prog 115 #[n.agg,d.agg] w fun e w'=>e= .returned (.bool (turnV n d))/\Below w.heap.size w w':=by
 have HD:=hide (shape_any d hd)
 have HN:=hide (shape_any n hn)
 clear hn hd
 have LL:=hide (Kp.of2 (Lie.new2 w (.D n) (.D d)))
 unfold turnV
 rw[h1,h2]
 rw[h1] at HD
 rw[h2] at HN
 have hq0:=aggE n
 have hq1:=aggE d
 rw[hq0,hq1]
 clear hq0 hq1
 go_enter func115,ntmps115
 go_wp2_with fail
 refine wp_region_held_drew (P:=prog) (S:=fun X=>Kp w X [(w.heap.size, .D n),(w.heap.size+1, .D d)]) (by kernel_rfl) (Kp.drew (uh LL)) (fun hS0=> ?_)
 refine hload27 0 1 (some 5) (x:= .tmp 3) (b:=w.heap.size+1) (d:=d) rfl (by kernel_rfl) (by kernel_rfl) (by kernel_rfl) (fun _ _ _ h=>h) (by kernel_rfl) (by kernel_rfl) (by kernel_rfl) (by kernel_rfl) rfl hS0 ?_
 simp only[nn]
 refine hcall 1 (some 6) rfl (by kernel_rfl) (by kernel_rfl) (by kernel_rfl) (by kernel_rfl) (uh HD _) hS0 (fun uw1 hS1=> ?_)
 clear hS0
 simp only[nn]
 refine hpure 2 (some 7) (.bool true) rfl (by kernel_rfl) (by kernel_rfl) (by kernel_rfl) (fun _ _ _ h=>h) (by kernel_rfl) (by kernel_rfl) (fun _=>by kernel_rfl) hS1 ?_
 simp only[nn]
 refine hpure 3 (some 8) (.bool true) rfl (by kernel_rfl) (by kernel_rfl) (by kernel_rfl) (fun _ _ _ h=>h) (by kernel_rfl) (by kernel_rfl) (fun _=>by kernel_rfl) hS1 ?_
 simp only[nn]
 refine hload27 4 1 (some 9) (x:= .tmp 3) (b:=w.heap.size+1) (d:=d) rfl (by kernel_rfl) (by kernel_rfl) (by kernel_rfl) (fun _ _ _ h=>h) (by kernel_rfl) (by kernel_rfl) (by kernel_rfl) (by kernel_rfl) rfl hS1 ?_
 simp only[nn]
 refine hload27 6 0 (some 11) (x:= .tmp 2) (b:=w.heap.size) (d:=n) rfl (by kernel_rfl) (by kernel_rfl) (by kernel_rfl) (fun _ _ _ h=>h) (by kernel_rfl) (by kernel_rfl) (by kernel_rfl) (by kernel_rfl) rfl hS1 ?_
 simp only[nn]
 refine hcall 5 (some 10) rfl (by kernel_rfl) (by kernel_rfl) (by kernel_rfl) (by kernel_rfl) (uh HD _) hS1 (fun uw2 hS2=> ?_)
 clear hS1
 simp only[nn]
 refine hcall 7 (some 12) rfl (by kernel_rfl) (by kernel_rfl) (by kernel_rfl) (by kernel_rfl) (uh HN _) hS2 (fun uw3 hS3=> ?_)
 clear hS2
 simp only[nn]
 refine hpure 8 (some 13) (.bool true) rfl (by kernel_rfl) (by kernel_rfl) (by kernel_rfl) (fun _ _ _ h=>h) (by kernel_rfl) (by kernel_rfl) (fun _=>by kernel_rfl) hS3 ?_
 simp only[nn]
 refine hpure 9 (some 14) (.bool true) rfl (by kernel_rfl) (by kernel_rfl) (by kernel_rfl) (fun _ _ _ h=>h) (by kernel_rfl) (by kernel_rfl) (fun _=>by kernel_rfl) hS3 ?_
 simp only[nn]
 refine hpure 10 (some 4) (.bool true) rfl (by kernel_rfl) (by kernel_rfl) (by kernel_rfl) (fun _ _ _ h=>h) (by kernel_rfl) (by kernel_rfl) (fun _=>by kernel_rfl) hS3 ?_
 simp only[nn]
 refine wpAnyH_done (by kernel_rfl) ?_ _
 try simp only[nn]
 replace LL:=hide hS3
 clear hS3
 go_wp2_with fail
 go_ret
 exact⟨rfl,(uh LL).below⟩
theorem turns_33 (n d:DD) (hn:FD n) (hd:FD d) (h1:shapeV d=3) (h2:shapeV n=3) (w:World):Calls prog 115 #[n.agg,d.agg] w fun e w'=>e= .returned (.bool (turnV n d))/\Below w.heap.size w w':=by
 have HD:=hide (shape_any d hd)
 have HN:=hide (shape_any n hn)
 clear hn hd
 have LL:=hide (Kp.of2 (Lie.new2 w (.D n) (.D d)))
 unfold turnV
 rw[h1,h2]
 rw[h1] at HD
 rw[h2] at HN
 have hq0:=aggE n
 have hq1:=aggE d
 rw[hq0,hq1]
 clear hq0 hq1
 go_enter func115,ntmps115
 go_wp2_with fail
 refine wp_region_held_drew (P:=prog) (S:=fun X=>Kp w X [(w.heap.size, .D n),(w.heap.size+1, .D d)]) (by kernel_rfl) (Kp.drew (uh LL)) (fun hS0=> ?_)
 refine hload27 0 1 (some 5) (x:= .tmp 3) (b:=w.heap.size+1) (d:=d) rfl (by kernel_rfl) (by kernel_rfl) (by kernel_rfl) (fun _ _ _ h=>h) (by kernel_rfl) (by kernel_rfl) (by kernel_rfl) (by kernel_rfl) rfl hS0 ?_
 simp only[nn]
 refine hcall 1 (some 6) rfl (by kernel_rfl) (by kernel_rfl) (by kernel_rfl) (by kernel_rfl) (uh HD _) hS0 (fun uw1 hS1=> ?_)
 clear hS0
 simp only[nn]
 refine hpure 2 (some 7) (.bool true) rfl (by kernel_rfl) (by kernel_rfl) (by kernel_rfl) (fun _ _ _ h=>h) (by kernel_rfl) (by kernel_rfl) (fun _=>by kernel_rfl) hS1 ?_
 simp only[nn]
 refine hpure 3 (some 8) (.bool true) rfl (by kernel_rfl) (by kernel_rfl) (by kernel_rfl) (fun _ _ _ h=>h) (by kernel_rfl) (by kernel_rfl) (fun _=>by kernel_rfl) hS1 ?_
 simp only[nn]
 refine hload27 4 1 (some 9) (x:= .tmp 3) (b:=w.heap.size+1) (d:=d) rfl (by kernel_rfl) (by kernel_rfl) (by kernel_rfl) (fun _ _ _ h=>h) (by kernel_rfl) (by kernel_rfl) (by kernel_rfl) (by kernel_rfl) rfl hS1 ?_
 simp only[nn]
 refine hload27 6 0 (some 11) (x:= .tmp 2) (b:=w.heap.size) (d:=n) rfl (by kernel_rfl) (by kernel_rfl) (by kernel_rfl) (fun _ _ _ h=>h) (by kernel_rfl) (by kernel_rfl) (by kernel_rfl) (by kernel_rfl) rfl hS1 ?_
 simp only[nn]
 refine hcall 5 (some 10) rfl (by kernel_rfl) (by kernel_rfl) (by kernel_rfl) (by kernel_rfl) (uh HD _) hS1 (fun uw2 hS2=> ?_)
 clear hS1
 simp only[nn]
 refine hcall 7 (some 12) rfl (by kernel_rfl) (by kernel_rfl) (by kernel_rfl) (by kernel_rfl) (uh HN _) hS2 (fun uw3 hS3=> ?_)
 clear hS2
 simp only[nn]
 refine hpure 8 (some 13) (.bool false) rfl (by kernel_rfl) (by kernel_rfl) (by kernel_rfl) (fun _ _ _ h=>h) (by kernel_rfl) (by kernel_rfl) (fun _=>by kernel_rfl) hS3 ?_
 simp only[nn]
 refine hpure 9 (some 14) (.bool false) rfl (by kernel_rfl) (by kernel_rfl) (by kernel_rfl) (fun _ _ _ h=>h) (by kernel_rfl) (by kernel_rfl) (fun _=>by kernel_rfl) hS3 ?_
 simp only[nn]
 refine hpure 10 (some 4) (.bool false) rfl (by kernel_rfl) (by kernel_rfl) (by kernel_rfl) (fun _ _ _ h=>h) (by kernel_rfl) (by kernel_rfl) (fun _=>by kernel_rfl) hS3 ?_
 simp only[nn]
 refine wpAnyH_done (by kernel_rfl) ?_ _
 try simp only[nn]
 replace LL:=hide hS3
 clear hS3
 go_wp2_with fail
 go_ret
 exact⟨rfl,(uh LL).below⟩
theorem shape_cases (d:DD):shapeV d=0∨shapeV d=1∨shapeV d=2∨shapeV d=3:=by
 unfold shapeV
 split
 ·exact Or.inl rfl
 ·split
  ·exact Or.inr (Or.inr (Or.inl rfl))
  ·split
   ·exact Or.inr (Or.inr (Or.inr rfl))
   ·exact Or.inr (Or.inl rfl)
theorem turns_any (n d:DD) (hn:FD n) (hd:FD d) (w:World):Calls prog 115 #[n.agg,d.agg] w fun e w'=>e= .returned (.bool (turnV n d))/\Below w.heap.size w w':=by
 rcases shape_cases d with h1|h1|h1|h1
 ·rcases shape_cases n with h2|h2|h2|h2
  ·exact turns_00 n d hn hd h1 h2 w
  ·exact turns_01 n d hn hd h1 h2 w
  ·exact turns_02 n d hn hd h1 h2 w
  ·exact turns_03 n d hn hd h1 h2 w
 ·exact turns_1 n d hn hd h1 w
 ·rcases shape_cases n with h2|h2|h2|h2
  ·exact turns_20 n d hn hd h1 h2 w
  ·exact turns_21 n d hn hd h1 h2 w
  ·exact turns_22 n d hn hd h1 h2 w
  ·exact turns_23 n d hn hd h1 h2 w
 ·rcases shape_cases n with h2|h2|h2|h2
  ·exact turns_30 n d hn hd h1 h2 w
  ·exact turns_31 n d hn hd h1 h2 w
  ·exact turns_32 n d hn hd h1 h2 w
  ·exact turns_33 n d hn hd h1 h2 w

theorem forbidden_any (n d:DD) (hn:FD n) (hd:FD d) (w:World) (hT:Lib.Utf8Tabs 4 5 w):Calls prog 94 #[n.agg,d.agg] w fun e w'=>e= .returned (.bool (forbV n d))/\Below w.heap.size w w':=by
 have HT:=hide hT
 clear hT
 have HTu:=hide (turns_any n d hn hd)
 have HSh:=hide (shape_any n hn)
 have HG:=hide (fun w hT=>differs_any n.g d.g hn.2.1 hd.2.1 w hT)
 have HS:=hide (fun w hT=>differs_any n.s d.s hn.2.2 hd.2.2 w hT)
 have HV:=hide (fun w hT=>differs_any n.v d.v hn.1 hd.1 w hT)
 clear hn hd
 have LL:=hide (Lie.new2 w (.D n) (.D d))
 unfold forbV
 generalize turnV n d=tu at *
 generalize shapeV n=sh at *
 generalize difV n.g d.g=dg at *
 generalize difV n.s d.s=ds at *
 generalize difV n.v d.v=dv at *
 generalize hq2:(d.c==2)=q2 at *
 generalize hqe:(d.e !=0)=qe at *
 generalize hqn:(d.e !=n.e)=qn at *
 generalize hn1:(n.w==1)=n1 at *
 generalize hw2:(d.w==2)=w2 at *
 have hq0:=aggE n
 have hq1:=aggE d
 rw[hq0,hq1]
 clear hq0 hq1
 by_cases h3:sh=3
 ·subst h3
  go_enter func94,ntmps94
  cases q2
  ·cases qe
   ·go_wp2_with (first|go_skip|((with_reducible apply load27);(case ho=>rfl);(case hw=>rfl);(case hx=>rfl);(case hc=>first|exact(uh LL).one|exact(uh LL).two);simp only[nn])|((with_reducible apply load24v);(case ho=>rfl);(case hw=>rfl);(case hx=>rfl);(case hc=>first|exact(uh LL).one|exact(uh LL).two);simp only[nn])|((with_reducible apply load24g);(case ho=>rfl);(case hw=>rfl);(case hx=>rfl);(case hc=>first|exact(uh LL).one|exact(uh LL).two);simp only[nn])|((with_reducible apply load24s);(case ho=>rfl);(case hw=>rfl);(case hx=>rfl);(case hc=>first|exact(uh LL).one|exact(uh LL).two);simp only[nn])|((with_reducible apply load25w);(case ho=>rfl);(case hw=>rfl);(case hx=>rfl);(case hc=>first|exact(uh LL).one|exact(uh LL).two);simp only[nn])|((with_reducible apply load25e);(case ho=>rfl);(case hw=>rfl);(case hx=>rfl);(case hc=>first|exact(uh LL).one|exact(uh LL).two);simp only[nn])|((with_reducible apply load25c);(case ho=>rfl);(case hw=>rfl);(case hx=>rfl);(case hc=>first|exact(uh LL).one|exact(uh LL).two);simp only[nn])|(go_at_call 105;refine(said_any _ _).mono ?_;rintro _ _ ⟨rfl,rfl⟩))
    refine(uh HTu _).mono ?_
    rintro _ w16 ⟨rfl,hb⟩
    replace LL:=hide ((uh LL).on hb)
    clear hb
    cases tu
    ·go_wp2_with (first|go_skip|((with_reducible apply load27);(case ho=>rfl);(case hw=>rfl);(case hx=>rfl);(case hc=>first|exact(uh LL).one|exact(uh LL).two);simp only[nn])|((with_reducible apply load24v);(case ho=>rfl);(case hw=>rfl);(case hx=>rfl);(case hc=>first|exact(uh LL).one|exact(uh LL).two);simp only[nn])|((with_reducible apply load24g);(case ho=>rfl);(case hw=>rfl);(case hx=>rfl);(case hc=>first|exact(uh LL).one|exact(uh LL).two);simp only[nn])|((with_reducible apply load24s);(case ho=>rfl);(case hw=>rfl);(case hx=>rfl);(case hc=>first|exact(uh LL).one|exact(uh LL).two);simp only[nn])|((with_reducible apply load25w);(case ho=>rfl);(case hw=>rfl);(case hx=>rfl);(case hc=>first|exact(uh LL).one|exact(uh LL).two);simp only[nn])|((with_reducible apply load25e);(case ho=>rfl);(case hw=>rfl);(case hx=>rfl);(case hc=>first|exact(uh LL).one|exact(uh LL).two);simp only[nn])|((with_reducible apply load25c);(case ho=>rfl);(case hw=>rfl);(case hx=>rfl);(case hc=>first|exact(uh LL).one|exact(uh LL).two);simp only[nn])|(go_at_call 105;refine(said_any _ _).mono ?_;rintro _ _ ⟨rfl,rfl⟩))
     refine(uh HSh _).mono ?_
     rintro _ w17 ⟨rfl,hb⟩
     replace LL:=hide ((uh LL).on hb)
     clear hb
     go_wp2_with (first|go_skip|((with_reducible apply load27);(case ho=>rfl);(case hw=>rfl);(case hx=>rfl);(case hc=>first|exact(uh LL).one|exact(uh LL).two);simp only[nn])|((with_reducible apply load24v);(case ho=>rfl);(case hw=>rfl);(case hx=>rfl);(case hc=>first|exact(uh LL).one|exact(uh LL).two);simp only[nn])|((with_reducible apply load24g);(case ho=>rfl);(case hw=>rfl);(case hx=>rfl);(case hc=>first|exact(uh LL).one|exact(uh LL).two);simp only[nn])|((with_reducible apply load24s);(case ho=>rfl);(case hw=>rfl);(case hx=>rfl);(case hc=>first|exact(uh LL).one|exact(uh LL).two);simp only[nn])|((with_reducible apply load25w);(case ho=>rfl);(case hw=>rfl);(case hx=>rfl);(case hc=>first|exact(uh LL).one|exact(uh LL).two);simp only[nn])|((with_reducible apply load25e);(case ho=>rfl);(case hw=>rfl);(case hx=>rfl);(case hc=>first|exact(uh LL).one|exact(uh LL).two);simp only[nn])|((with_reducible apply load25c);(case ho=>rfl);(case hw=>rfl);(case hx=>rfl);(case hc=>first|exact(uh LL).one|exact(uh LL).two);simp only[nn])|(go_at_call 105;refine(said_any _ _).mono ?_;rintro _ _ ⟨rfl,rfl⟩))
     refine(uh HG _ (tabs_below (uh HT) (uh LL).below)).mono ?_
     rintro _ w18 ⟨rfl,hb⟩
     replace LL:=hide ((uh LL).on hb)
     clear hb
     cases dg
     ·go_wp2_with (first|go_skip|((with_reducible apply load27);(case ho=>rfl);(case hw=>rfl);(case hx=>rfl);(case hc=>first|exact(uh LL).one|exact(uh LL).two);simp only[nn])|((with_reducible apply load24v);(case ho=>rfl);(case hw=>rfl);(case hx=>rfl);(case hc=>first|exact(uh LL).one|exact(uh LL).two);simp only[nn])|((with_reducible apply load24g);(case ho=>rfl);(case hw=>rfl);(case hx=>rfl);(case hc=>first|exact(uh LL).one|exact(uh LL).two);simp only[nn])|((with_reducible apply load24s);(case ho=>rfl);(case hw=>rfl);(case hx=>rfl);(case hc=>first|exact(uh LL).one|exact(uh LL).two);simp only[nn])|((with_reducible apply load25w);(case ho=>rfl);(case hw=>rfl);(case hx=>rfl);(case hc=>first|exact(uh LL).one|exact(uh LL).two);simp only[nn])|((with_reducible apply load25e);(case ho=>rfl);(case hw=>rfl);(case hx=>rfl);(case hc=>first|exact(uh LL).one|exact(uh LL).two);simp only[nn])|((with_reducible apply load25c);(case ho=>rfl);(case hw=>rfl);(case hx=>rfl);(case hc=>first|exact(uh LL).one|exact(uh LL).two);simp only[nn])|(go_at_call 105;refine(said_any _ _).mono ?_;rintro _ _ ⟨rfl,rfl⟩))
      refine(uh HS _ (tabs_below (uh HT) (uh LL).below)).mono ?_
      rintro _ w19 ⟨rfl,hb⟩
      replace LL:=hide ((uh LL).on hb)
      clear hb
      go_wp2_with (first|go_skip|((with_reducible apply load27);(case ho=>rfl);(case hw=>rfl);(case hx=>rfl);(case hc=>first|exact(uh LL).one|exact(uh LL).two);simp only[nn])|((with_reducible apply load24v);(case ho=>rfl);(case hw=>rfl);(case hx=>rfl);(case hc=>first|exact(uh LL).one|exact(uh LL).two);simp only[nn])|((with_reducible apply load24g);(case ho=>rfl);(case hw=>rfl);(case hx=>rfl);(case hc=>first|exact(uh LL).one|exact(uh LL).two);simp only[nn])|((with_reducible apply load24s);(case ho=>rfl);(case hw=>rfl);(case hx=>rfl);(case hc=>first|exact(uh LL).one|exact(uh LL).two);simp only[nn])|((with_reducible apply load25w);(case ho=>rfl);(case hw=>rfl);(case hx=>rfl);(case hc=>first|exact(uh LL).one|exact(uh LL).two);simp only[nn])|((with_reducible apply load25e);(case ho=>rfl);(case hw=>rfl);(case hx=>rfl);(case hc=>first|exact(uh LL).one|exact(uh LL).two);simp only[nn])|((with_reducible apply load25c);(case ho=>rfl);(case hw=>rfl);(case hx=>rfl);(case hc=>first|exact(uh LL).one|exact(uh LL).two);simp only[nn])|(go_at_call 105;refine(said_any _ _).mono ?_;rintro _ _ ⟨rfl,rfl⟩))
      go_ret
      exact⟨rfl,(uh LL).below⟩
     ·go_wp2_with (first|go_skip|((with_reducible apply load27);(case ho=>rfl);(case hw=>rfl);(case hx=>rfl);(case hc=>first|exact(uh LL).one|exact(uh LL).two);simp only[nn])|((with_reducible apply load24v);(case ho=>rfl);(case hw=>rfl);(case hx=>rfl);(case hc=>first|exact(uh LL).one|exact(uh LL).two);simp only[nn])|((with_reducible apply load24g);(case ho=>rfl);(case hw=>rfl);(case hx=>rfl);(case hc=>first|exact(uh LL).one|exact(uh LL).two);simp only[nn])|((with_reducible apply load24s);(case ho=>rfl);(case hw=>rfl);(case hx=>rfl);(case hc=>first|exact(uh LL).one|exact(uh LL).two);simp only[nn])|((with_reducible apply load25w);(case ho=>rfl);(case hw=>rfl);(case hx=>rfl);(case hc=>first|exact(uh LL).one|exact(uh LL).two);simp only[nn])|((with_reducible apply load25e);(case ho=>rfl);(case hw=>rfl);(case hx=>rfl);(case hc=>first|exact(uh LL).one|exact(uh LL).two);simp only[nn])|((with_reducible apply load25c);(case ho=>rfl);(case hw=>rfl);(case hx=>rfl);(case hc=>first|exact(uh LL).one|exact(uh LL).two);simp only[nn])|(go_at_call 105;refine(said_any _ _).mono ?_;rintro _ _ ⟨rfl,rfl⟩))
      go_ret
      exact⟨rfl,(uh LL).below⟩
    ·go_wp2_with (first|go_skip|((with_reducible apply load27);(case ho=>rfl);(case hw=>rfl);(case hx=>rfl);(case hc=>first|exact(uh LL).one|exact(uh LL).two);simp only[nn])|((with_reducible apply load24v);(case ho=>rfl);(case hw=>rfl);(case hx=>rfl);(case hc=>first|exact(uh LL).one|exact(uh LL).two);simp only[nn])|((with_reducible apply load24g);(case ho=>rfl);(case hw=>rfl);(case hx=>rfl);(case hc=>first|exact(uh LL).one|exact(uh LL).two);simp only[nn])|((with_reducible apply load24s);(case ho=>rfl);(case hw=>rfl);(case hx=>rfl);(case hc=>first|exact(uh LL).one|exact(uh LL).two);simp only[nn])|((with_reducible apply load25w);(case ho=>rfl);(case hw=>rfl);(case hx=>rfl);(case hc=>first|exact(uh LL).one|exact(uh LL).two);simp only[nn])|((with_reducible apply load25e);(case ho=>rfl);(case hw=>rfl);(case hx=>rfl);(case hc=>first|exact(uh LL).one|exact(uh LL).two);simp only[nn])|((with_reducible apply load25c);(case ho=>rfl);(case hw=>rfl);(case hx=>rfl);(case hc=>first|exact(uh LL).one|exact(uh LL).two);simp only[nn])|(go_at_call 105;refine(said_any _ _).mono ?_;rintro _ _ ⟨rfl,rfl⟩))
     go_ret
     exact⟨rfl,(uh LL).below⟩
   ·cases qn
    ·go_wp2_with (first|go_skip|((with_reducible apply load27);(case ho=>rfl);(case hw=>rfl);(case hx=>rfl);(case hc=>first|exact(uh LL).one|exact(uh LL).two);simp only[nn])|((with_reducible apply load24v);(case ho=>rfl);(case hw=>rfl);(case hx=>rfl);(case hc=>first|exact(uh LL).one|exact(uh LL).two);simp only[nn])|((with_reducible apply load24g);(case ho=>rfl);(case hw=>rfl);(case hx=>rfl);(case hc=>first|exact(uh LL).one|exact(uh LL).two);simp only[nn])|((with_reducible apply load24s);(case ho=>rfl);(case hw=>rfl);(case hx=>rfl);(case hc=>first|exact(uh LL).one|exact(uh LL).two);simp only[nn])|((with_reducible apply load25w);(case ho=>rfl);(case hw=>rfl);(case hx=>rfl);(case hc=>first|exact(uh LL).one|exact(uh LL).two);simp only[nn])|((with_reducible apply load25e);(case ho=>rfl);(case hw=>rfl);(case hx=>rfl);(case hc=>first|exact(uh LL).one|exact(uh LL).two);simp only[nn])|((with_reducible apply load25c);(case ho=>rfl);(case hw=>rfl);(case hx=>rfl);(case hc=>first|exact(uh LL).one|exact(uh LL).two);simp only[nn])|(go_at_call 105;refine(said_any _ _).mono ?_;rintro _ _ ⟨rfl,rfl⟩))
     refine(uh HTu _).mono ?_
     rintro _ w22 ⟨rfl,hb⟩
     replace LL:=hide ((uh LL).on hb)
     clear hb
     cases tu
     ·go_wp2_with (first|go_skip|((with_reducible apply load27);(case ho=>rfl);(case hw=>rfl);(case hx=>rfl);(case hc=>first|exact(uh LL).one|exact(uh LL).two);simp only[nn])|((with_reducible apply load24v);(case ho=>rfl);(case hw=>rfl);(case hx=>rfl);(case hc=>first|exact(uh LL).one|exact(uh LL).two);simp only[nn])|((with_reducible apply load24g);(case ho=>rfl);(case hw=>rfl);(case hx=>rfl);(case hc=>first|exact(uh LL).one|exact(uh LL).two);simp only[nn])|((with_reducible apply load24s);(case ho=>rfl);(case hw=>rfl);(case hx=>rfl);(case hc=>first|exact(uh LL).one|exact(uh LL).two);simp only[nn])|((with_reducible apply load25w);(case ho=>rfl);(case hw=>rfl);(case hx=>rfl);(case hc=>first|exact(uh LL).one|exact(uh LL).two);simp only[nn])|((with_reducible apply load25e);(case ho=>rfl);(case hw=>rfl);(case hx=>rfl);(case hc=>first|exact(uh LL).one|exact(uh LL).two);simp only[nn])|((with_reducible apply load25c);(case ho=>rfl);(case hw=>rfl);(case hx=>rfl);(case hc=>first|exact(uh LL).one|exact(uh LL).two);simp only[nn])|(go_at_call 105;refine(said_any _ _).mono ?_;rintro _ _ ⟨rfl,rfl⟩))
      refine(uh HSh _).mono ?_
      rintro _ w23 ⟨rfl,hb⟩
      replace LL:=hide ((uh LL).on hb)
      clear hb
      go_wp2_with (first|go_skip|((with_reducible apply load27);(case ho=>rfl);(case hw=>rfl);(case hx=>rfl);(case hc=>first|exact(uh LL).one|exact(uh LL).two);simp only[nn])|((with_reducible apply load24v);(case ho=>rfl);(case hw=>rfl);(case hx=>rfl);(case hc=>first|exact(uh LL).one|exact(uh LL).two);simp only[nn])|((with_reducible apply load24g);(case ho=>rfl);(case hw=>rfl);(case hx=>rfl);(case hc=>first|exact(uh LL).one|exact(uh LL).two);simp only[nn])|((with_reducible apply load24s);(case ho=>rfl);(case hw=>rfl);(case hx=>rfl);(case hc=>first|exact(uh LL).one|exact(uh LL).two);simp only[nn])|((with_reducible apply load25w);(case ho=>rfl);(case hw=>rfl);(case hx=>rfl);(case hc=>first|exact(uh LL).one|exact(uh LL).two);simp only[nn])|((with_reducible apply load25e);(case ho=>rfl);(case hw=>rfl);(case hx=>rfl);(case hc=>first|exact(uh LL).one|exact(uh LL).two);simp only[nn])|((with_reducible apply load25c);(case ho=>rfl);(case hw=>rfl);(case hx=>rfl);(case hc=>first|exact(uh LL).one|exact(uh LL).two);simp only[nn])|(go_at_call 105;refine(said_any _ _).mono ?_;rintro _ _ ⟨rfl,rfl⟩))
      refine(uh HG _ (tabs_below (uh HT) (uh LL).below)).mono ?_
      rintro _ w24 ⟨rfl,hb⟩
      replace LL:=hide ((uh LL).on hb)
      clear hb
      cases dg
      ·go_wp2_with (first|go_skip|((with_reducible apply load27);(case ho=>rfl);(case hw=>rfl);(case hx=>rfl);(case hc=>first|exact(uh LL).one|exact(uh LL).two);simp only[nn])|((with_reducible apply load24v);(case ho=>rfl);(case hw=>rfl);(case hx=>rfl);(case hc=>first|exact(uh LL).one|exact(uh LL).two);simp only[nn])|((with_reducible apply load24g);(case ho=>rfl);(case hw=>rfl);(case hx=>rfl);(case hc=>first|exact(uh LL).one|exact(uh LL).two);simp only[nn])|((with_reducible apply load24s);(case ho=>rfl);(case hw=>rfl);(case hx=>rfl);(case hc=>first|exact(uh LL).one|exact(uh LL).two);simp only[nn])|((with_reducible apply load25w);(case ho=>rfl);(case hw=>rfl);(case hx=>rfl);(case hc=>first|exact(uh LL).one|exact(uh LL).two);simp only[nn])|((with_reducible apply load25e);(case ho=>rfl);(case hw=>rfl);(case hx=>rfl);(case hc=>first|exact(uh LL).one|exact(uh LL).two);simp only[nn])|((with_reducible apply load25c);(case ho=>rfl);(case hw=>rfl);(case hx=>rfl);(case hc=>first|exact(uh LL).one|exact(uh LL).two);simp only[nn])|(go_at_call 105;refine(said_any _ _).mono ?_;rintro _ _ ⟨rfl,rfl⟩))
       refine(uh HS _ (tabs_below (uh HT) (uh LL).below)).mono ?_
       rintro _ w25 ⟨rfl,hb⟩
       replace LL:=hide ((uh LL).on hb)
       clear hb
       go_wp2_with (first|go_skip|((with_reducible apply load27);(case ho=>rfl);(case hw=>rfl);(case hx=>rfl);(case hc=>first|exact(uh LL).one|exact(uh LL).two);simp only[nn])|((with_reducible apply load24v);(case ho=>rfl);(case hw=>rfl);(case hx=>rfl);(case hc=>first|exact(uh LL).one|exact(uh LL).two);simp only[nn])|((with_reducible apply load24g);(case ho=>rfl);(case hw=>rfl);(case hx=>rfl);(case hc=>first|exact(uh LL).one|exact(uh LL).two);simp only[nn])|((with_reducible apply load24s);(case ho=>rfl);(case hw=>rfl);(case hx=>rfl);(case hc=>first|exact(uh LL).one|exact(uh LL).two);simp only[nn])|((with_reducible apply load25w);(case ho=>rfl);(case hw=>rfl);(case hx=>rfl);(case hc=>first|exact(uh LL).one|exact(uh LL).two);simp only[nn])|((with_reducible apply load25e);(case ho=>rfl);(case hw=>rfl);(case hx=>rfl);(case hc=>first|exact(uh LL).one|exact(uh LL).two);simp only[nn])|((with_reducible apply load25c);(case ho=>rfl);(case hw=>rfl);(case hx=>rfl);(case hc=>first|exact(uh LL).one|exact(uh LL).two);simp only[nn])|(go_at_call 105;refine(said_any _ _).mono ?_;rintro _ _ ⟨rfl,rfl⟩))
       go_ret
       exact⟨rfl,(uh LL).below⟩
      ·go_wp2_with (first|go_skip|((with_reducible apply load27);(case ho=>rfl);(case hw=>rfl);(case hx=>rfl);(case hc=>first|exact(uh LL).one|exact(uh LL).two);simp only[nn])|((with_reducible apply load24v);(case ho=>rfl);(case hw=>rfl);(case hx=>rfl);(case hc=>first|exact(uh LL).one|exact(uh LL).two);simp only[nn])|((with_reducible apply load24g);(case ho=>rfl);(case hw=>rfl);(case hx=>rfl);(case hc=>first|exact(uh LL).one|exact(uh LL).two);simp only[nn])|((with_reducible apply load24s);(case ho=>rfl);(case hw=>rfl);(case hx=>rfl);(case hc=>first|exact(uh LL).one|exact(uh LL).two);simp only[nn])|((with_reducible apply load25w);(case ho=>rfl);(case hw=>rfl);(case hx=>rfl);(case hc=>first|exact(uh LL).one|exact(uh LL).two);simp only[nn])|((with_reducible apply load25e);(case ho=>rfl);(case hw=>rfl);(case hx=>rfl);(case hc=>first|exact(uh LL).one|exact(uh LL).two);simp only[nn])|((with_reducible apply load25c);(case ho=>rfl);(case hw=>rfl);(case hx=>rfl);(case hc=>first|exact(uh LL).one|exact(uh LL).two);simp only[nn])|(go_at_call 105;refine(said_any _ _).mono ?_;rintro _ _ ⟨rfl,rfl⟩))
       go_ret
       exact⟨rfl,(uh LL).below⟩
     ·go_wp2_with (first|go_skip|((with_reducible apply load27);(case ho=>rfl);(case hw=>rfl);(case hx=>rfl);(case hc=>first|exact(uh LL).one|exact(uh LL).two);simp only[nn])|((with_reducible apply load24v);(case ho=>rfl);(case hw=>rfl);(case hx=>rfl);(case hc=>first|exact(uh LL).one|exact(uh LL).two);simp only[nn])|((with_reducible apply load24g);(case ho=>rfl);(case hw=>rfl);(case hx=>rfl);(case hc=>first|exact(uh LL).one|exact(uh LL).two);simp only[nn])|((with_reducible apply load24s);(case ho=>rfl);(case hw=>rfl);(case hx=>rfl);(case hc=>first|exact(uh LL).one|exact(uh LL).two);simp only[nn])|((with_reducible apply load25w);(case ho=>rfl);(case hw=>rfl);(case hx=>rfl);(case hc=>first|exact(uh LL).one|exact(uh LL).two);simp only[nn])|((with_reducible apply load25e);(case ho=>rfl);(case hw=>rfl);(case hx=>rfl);(case hc=>first|exact(uh LL).one|exact(uh LL).two);simp only[nn])|((with_reducible apply load25c);(case ho=>rfl);(case hw=>rfl);(case hx=>rfl);(case hc=>first|exact(uh LL).one|exact(uh LL).two);simp only[nn])|(go_at_call 105;refine(said_any _ _).mono ?_;rintro _ _ ⟨rfl,rfl⟩))
      go_ret
      exact⟨rfl,(uh LL).below⟩
    ·go_wp2_with (first|go_skip|((with_reducible apply load27);(case ho=>rfl);(case hw=>rfl);(case hx=>rfl);(case hc=>first|exact(uh LL).one|exact(uh LL).two);simp only[nn])|((with_reducible apply load24v);(case ho=>rfl);(case hw=>rfl);(case hx=>rfl);(case hc=>first|exact(uh LL).one|exact(uh LL).two);simp only[nn])|((with_reducible apply load24g);(case ho=>rfl);(case hw=>rfl);(case hx=>rfl);(case hc=>first|exact(uh LL).one|exact(uh LL).two);simp only[nn])|((with_reducible apply load24s);(case ho=>rfl);(case hw=>rfl);(case hx=>rfl);(case hc=>first|exact(uh LL).one|exact(uh LL).two);simp only[nn])|((with_reducible apply load25w);(case ho=>rfl);(case hw=>rfl);(case hx=>rfl);(case hc=>first|exact(uh LL).one|exact(uh LL).two);simp only[nn])|((with_reducible apply load25e);(case ho=>rfl);(case hw=>rfl);(case hx=>rfl);(case hc=>first|exact(uh LL).one|exact(uh LL).two);simp only[nn])|((with_reducible apply load25c);(case ho=>rfl);(case hw=>rfl);(case hx=>rfl);(case hc=>first|exact(uh LL).one|exact(uh LL).two);simp only[nn])|(go_at_call 105;refine(said_any _ _).mono ?_;rintro _ _ ⟨rfl,rfl⟩))
     go_ret
     exact⟨rfl,(uh LL).below⟩
  ·go_wp2_with (first|go_skip|((with_reducible apply load27);(case ho=>rfl);(case hw=>rfl);(case hx=>rfl);(case hc=>first|exact(uh LL).one|exact(uh LL).two);simp only[nn])|((with_reducible apply load24v);(case ho=>rfl);(case hw=>rfl);(case hx=>rfl);(case hc=>first|exact(uh LL).one|exact(uh LL).two);simp only[nn])|((with_reducible apply load24g);(case ho=>rfl);(case hw=>rfl);(case hx=>rfl);(case hc=>first|exact(uh LL).one|exact(uh LL).two);simp only[nn])|((with_reducible apply load24s);(case ho=>rfl);(case hw=>rfl);(case hx=>rfl);(case hc=>first|exact(uh LL).one|exact(uh LL).two);simp only[nn])|((with_reducible apply load25w);(case ho=>rfl);(case hw=>rfl);(case hx=>rfl);(case hc=>first|exact(uh LL).one|exact(uh LL).two);simp only[nn])|((with_reducible apply load25e);(case ho=>rfl);(case hw=>rfl);(case hx=>rfl);(case hc=>first|exact(uh LL).one|exact(uh LL).two);simp only[nn])|((with_reducible apply load25c);(case ho=>rfl);(case hw=>rfl);(case hx=>rfl);(case hc=>first|exact(uh LL).one|exact(uh LL).two);simp only[nn])|(go_at_call 105;refine(said_any _ _).mono ?_;rintro _ _ ⟨rfl,rfl⟩))
   go_ret
   exact⟨rfl,(uh LL).below⟩
 ·have e3:(sh==3)=false:=by simp[h3]
  rw[e3]
  go_enter func94,ntmps94
  cases q2
  ·cases qe
   ·go_wp2_with (first|go_skip|((with_reducible apply load27);(case ho=>rfl);(case hw=>rfl);(case hx=>rfl);(case hc=>first|exact(uh LL).one|exact(uh LL).two);simp only[nn])|((with_reducible apply load24v);(case ho=>rfl);(case hw=>rfl);(case hx=>rfl);(case hc=>first|exact(uh LL).one|exact(uh LL).two);simp only[nn])|((with_reducible apply load24g);(case ho=>rfl);(case hw=>rfl);(case hx=>rfl);(case hc=>first|exact(uh LL).one|exact(uh LL).two);simp only[nn])|((with_reducible apply load24s);(case ho=>rfl);(case hw=>rfl);(case hx=>rfl);(case hc=>first|exact(uh LL).one|exact(uh LL).two);simp only[nn])|((with_reducible apply load25w);(case ho=>rfl);(case hw=>rfl);(case hx=>rfl);(case hc=>first|exact(uh LL).one|exact(uh LL).two);simp only[nn])|((with_reducible apply load25e);(case ho=>rfl);(case hw=>rfl);(case hx=>rfl);(case hc=>first|exact(uh LL).one|exact(uh LL).two);simp only[nn])|((with_reducible apply load25c);(case ho=>rfl);(case hw=>rfl);(case hx=>rfl);(case hc=>first|exact(uh LL).one|exact(uh LL).two);simp only[nn])|(go_at_call 105;refine(said_any _ _).mono ?_;rintro _ _ ⟨rfl,rfl⟩))
    refine(uh HTu _).mono ?_
    rintro _ w28 ⟨rfl,hb⟩
    replace LL:=hide ((uh LL).on hb)
    clear hb
    cases tu
    ·go_wp2_with (first|go_skip|((with_reducible apply load27);(case ho=>rfl);(case hw=>rfl);(case hx=>rfl);(case hc=>first|exact(uh LL).one|exact(uh LL).two);simp only[nn])|((with_reducible apply load24v);(case ho=>rfl);(case hw=>rfl);(case hx=>rfl);(case hc=>first|exact(uh LL).one|exact(uh LL).two);simp only[nn])|((with_reducible apply load24g);(case ho=>rfl);(case hw=>rfl);(case hx=>rfl);(case hc=>first|exact(uh LL).one|exact(uh LL).two);simp only[nn])|((with_reducible apply load24s);(case ho=>rfl);(case hw=>rfl);(case hx=>rfl);(case hc=>first|exact(uh LL).one|exact(uh LL).two);simp only[nn])|((with_reducible apply load25w);(case ho=>rfl);(case hw=>rfl);(case hx=>rfl);(case hc=>first|exact(uh LL).one|exact(uh LL).two);simp only[nn])|((with_reducible apply load25e);(case ho=>rfl);(case hw=>rfl);(case hx=>rfl);(case hc=>first|exact(uh LL).one|exact(uh LL).two);simp only[nn])|((with_reducible apply load25c);(case ho=>rfl);(case hw=>rfl);(case hx=>rfl);(case hc=>first|exact(uh LL).one|exact(uh LL).two);simp only[nn])|(go_at_call 105;refine(said_any _ _).mono ?_;rintro _ _ ⟨rfl,rfl⟩))
     refine(uh HSh _).mono ?_
     rintro _ w32 ⟨rfl,hb⟩
     replace LL:=hide ((uh LL).on hb)
     clear hb
     cases n1
     ·go_wp2_with (first|go_skip|((with_reducible apply load27);(case ho=>rfl);(case hw=>rfl);(case hx=>rfl);(case hc=>first|exact(uh LL).one|exact(uh LL).two);simp only[nn])|((with_reducible apply load24v);(case ho=>rfl);(case hw=>rfl);(case hx=>rfl);(case hc=>first|exact(uh LL).one|exact(uh LL).two);simp only[nn])|((with_reducible apply load24g);(case ho=>rfl);(case hw=>rfl);(case hx=>rfl);(case hc=>first|exact(uh LL).one|exact(uh LL).two);simp only[nn])|((with_reducible apply load24s);(case ho=>rfl);(case hw=>rfl);(case hx=>rfl);(case hc=>first|exact(uh LL).one|exact(uh LL).two);simp only[nn])|((with_reducible apply load25w);(case ho=>rfl);(case hw=>rfl);(case hx=>rfl);(case hc=>first|exact(uh LL).one|exact(uh LL).two);simp only[nn])|((with_reducible apply load25e);(case ho=>rfl);(case hw=>rfl);(case hx=>rfl);(case hc=>first|exact(uh LL).one|exact(uh LL).two);simp only[nn])|((with_reducible apply load25c);(case ho=>rfl);(case hw=>rfl);(case hx=>rfl);(case hc=>first|exact(uh LL).one|exact(uh LL).two);simp only[nn])|(go_at_call 105;refine(said_any _ _).mono ?_;rintro _ _ ⟨rfl,rfl⟩))
      go_ret
      exact⟨rfl,(uh LL).below⟩
     ·cases w2
      ·go_wp2_with (first|go_skip|((with_reducible apply load27);(case ho=>rfl);(case hw=>rfl);(case hx=>rfl);(case hc=>first|exact(uh LL).one|exact(uh LL).two);simp only[nn])|((with_reducible apply load24v);(case ho=>rfl);(case hw=>rfl);(case hx=>rfl);(case hc=>first|exact(uh LL).one|exact(uh LL).two);simp only[nn])|((with_reducible apply load24g);(case ho=>rfl);(case hw=>rfl);(case hx=>rfl);(case hc=>first|exact(uh LL).one|exact(uh LL).two);simp only[nn])|((with_reducible apply load24s);(case ho=>rfl);(case hw=>rfl);(case hx=>rfl);(case hc=>first|exact(uh LL).one|exact(uh LL).two);simp only[nn])|((with_reducible apply load25w);(case ho=>rfl);(case hw=>rfl);(case hx=>rfl);(case hc=>first|exact(uh LL).one|exact(uh LL).two);simp only[nn])|((with_reducible apply load25e);(case ho=>rfl);(case hw=>rfl);(case hx=>rfl);(case hc=>first|exact(uh LL).one|exact(uh LL).two);simp only[nn])|((with_reducible apply load25c);(case ho=>rfl);(case hw=>rfl);(case hx=>rfl);(case hc=>first|exact(uh LL).one|exact(uh LL).two);simp only[nn])|(go_at_call 105;refine(said_any _ _).mono ?_;rintro _ _ ⟨rfl,rfl⟩))
       refine(uh HV _ (tabs_below (uh HT) (uh LL).below)).mono ?_
       rintro _ w33 ⟨rfl,hb⟩
       replace LL:=hide ((uh LL).on hb)
       clear hb
       go_wp2_with (first|go_skip|((with_reducible apply load27);(case ho=>rfl);(case hw=>rfl);(case hx=>rfl);(case hc=>first|exact(uh LL).one|exact(uh LL).two);simp only[nn])|((with_reducible apply load24v);(case ho=>rfl);(case hw=>rfl);(case hx=>rfl);(case hc=>first|exact(uh LL).one|exact(uh LL).two);simp only[nn])|((with_reducible apply load24g);(case ho=>rfl);(case hw=>rfl);(case hx=>rfl);(case hc=>first|exact(uh LL).one|exact(uh LL).two);simp only[nn])|((with_reducible apply load24s);(case ho=>rfl);(case hw=>rfl);(case hx=>rfl);(case hc=>first|exact(uh LL).one|exact(uh LL).two);simp only[nn])|((with_reducible apply load25w);(case ho=>rfl);(case hw=>rfl);(case hx=>rfl);(case hc=>first|exact(uh LL).one|exact(uh LL).two);simp only[nn])|((with_reducible apply load25e);(case ho=>rfl);(case hw=>rfl);(case hx=>rfl);(case hc=>first|exact(uh LL).one|exact(uh LL).two);simp only[nn])|((with_reducible apply load25c);(case ho=>rfl);(case hw=>rfl);(case hx=>rfl);(case hc=>first|exact(uh LL).one|exact(uh LL).two);simp only[nn])|(go_at_call 105;refine(said_any _ _).mono ?_;rintro _ _ ⟨rfl,rfl⟩))
       go_ret
       exact⟨rfl,(uh LL).below⟩
      ·go_wp2_with (first|go_skip|((with_reducible apply load27);(case ho=>rfl);(case hw=>rfl);(case hx=>rfl);(case hc=>first|exact(uh LL).one|exact(uh LL).two);simp only[nn])|((with_reducible apply load24v);(case ho=>rfl);(case hw=>rfl);(case hx=>rfl);(case hc=>first|exact(uh LL).one|exact(uh LL).two);simp only[nn])|((with_reducible apply load24g);(case ho=>rfl);(case hw=>rfl);(case hx=>rfl);(case hc=>first|exact(uh LL).one|exact(uh LL).two);simp only[nn])|((with_reducible apply load24s);(case ho=>rfl);(case hw=>rfl);(case hx=>rfl);(case hc=>first|exact(uh LL).one|exact(uh LL).two);simp only[nn])|((with_reducible apply load25w);(case ho=>rfl);(case hw=>rfl);(case hx=>rfl);(case hc=>first|exact(uh LL).one|exact(uh LL).two);simp only[nn])|((with_reducible apply load25e);(case ho=>rfl);(case hw=>rfl);(case hx=>rfl);(case hc=>first|exact(uh LL).one|exact(uh LL).two);simp only[nn])|((with_reducible apply load25c);(case ho=>rfl);(case hw=>rfl);(case hx=>rfl);(case hc=>first|exact(uh LL).one|exact(uh LL).two);simp only[nn])|(go_at_call 105;refine(said_any _ _).mono ?_;rintro _ _ ⟨rfl,rfl⟩))
       go_ret
       exact⟨rfl,(uh LL).below⟩
    ·go_wp2_with (first|go_skip|((with_reducible apply load27);(case ho=>rfl);(case hw=>rfl);(case hx=>rfl);(case hc=>first|exact(uh LL).one|exact(uh LL).two);simp only[nn])|((with_reducible apply load24v);(case ho=>rfl);(case hw=>rfl);(case hx=>rfl);(case hc=>first|exact(uh LL).one|exact(uh LL).two);simp only[nn])|((with_reducible apply load24g);(case ho=>rfl);(case hw=>rfl);(case hx=>rfl);(case hc=>first|exact(uh LL).one|exact(uh LL).two);simp only[nn])|((with_reducible apply load24s);(case ho=>rfl);(case hw=>rfl);(case hx=>rfl);(case hc=>first|exact(uh LL).one|exact(uh LL).two);simp only[nn])|((with_reducible apply load25w);(case ho=>rfl);(case hw=>rfl);(case hx=>rfl);(case hc=>first|exact(uh LL).one|exact(uh LL).two);simp only[nn])|((with_reducible apply load25e);(case ho=>rfl);(case hw=>rfl);(case hx=>rfl);(case hc=>first|exact(uh LL).one|exact(uh LL).two);simp only[nn])|((with_reducible apply load25c);(case ho=>rfl);(case hw=>rfl);(case hx=>rfl);(case hc=>first|exact(uh LL).one|exact(uh LL).two);simp only[nn])|(go_at_call 105;refine(said_any _ _).mono ?_;rintro _ _ ⟨rfl,rfl⟩))
     go_ret
     exact⟨rfl,(uh LL).below⟩
   ·cases qn
    ·go_wp2_with (first|go_skip|((with_reducible apply load27);(case ho=>rfl);(case hw=>rfl);(case hx=>rfl);(case hc=>first|exact(uh LL).one|exact(uh LL).two);simp only[nn])|((with_reducible apply load24v);(case ho=>rfl);(case hw=>rfl);(case hx=>rfl);(case hc=>first|exact(uh LL).one|exact(uh LL).two);simp only[nn])|((with_reducible apply load24g);(case ho=>rfl);(case hw=>rfl);(case hx=>rfl);(case hc=>first|exact(uh LL).one|exact(uh LL).two);simp only[nn])|((with_reducible apply load24s);(case ho=>rfl);(case hw=>rfl);(case hx=>rfl);(case hc=>first|exact(uh LL).one|exact(uh LL).two);simp only[nn])|((with_reducible apply load25w);(case ho=>rfl);(case hw=>rfl);(case hx=>rfl);(case hc=>first|exact(uh LL).one|exact(uh LL).two);simp only[nn])|((with_reducible apply load25e);(case ho=>rfl);(case hw=>rfl);(case hx=>rfl);(case hc=>first|exact(uh LL).one|exact(uh LL).two);simp only[nn])|((with_reducible apply load25c);(case ho=>rfl);(case hw=>rfl);(case hx=>rfl);(case hc=>first|exact(uh LL).one|exact(uh LL).two);simp only[nn])|(go_at_call 105;refine(said_any _ _).mono ?_;rintro _ _ ⟨rfl,rfl⟩))
     refine(uh HTu _).mono ?_
     rintro _ w34 ⟨rfl,hb⟩
     replace LL:=hide ((uh LL).on hb)
     clear hb
     cases tu
     ·go_wp2_with (first|go_skip|((with_reducible apply load27);(case ho=>rfl);(case hw=>rfl);(case hx=>rfl);(case hc=>first|exact(uh LL).one|exact(uh LL).two);simp only[nn])|((with_reducible apply load24v);(case ho=>rfl);(case hw=>rfl);(case hx=>rfl);(case hc=>first|exact(uh LL).one|exact(uh LL).two);simp only[nn])|((with_reducible apply load24g);(case ho=>rfl);(case hw=>rfl);(case hx=>rfl);(case hc=>first|exact(uh LL).one|exact(uh LL).two);simp only[nn])|((with_reducible apply load24s);(case ho=>rfl);(case hw=>rfl);(case hx=>rfl);(case hc=>first|exact(uh LL).one|exact(uh LL).two);simp only[nn])|((with_reducible apply load25w);(case ho=>rfl);(case hw=>rfl);(case hx=>rfl);(case hc=>first|exact(uh LL).one|exact(uh LL).two);simp only[nn])|((with_reducible apply load25e);(case ho=>rfl);(case hw=>rfl);(case hx=>rfl);(case hc=>first|exact(uh LL).one|exact(uh LL).two);simp only[nn])|((with_reducible apply load25c);(case ho=>rfl);(case hw=>rfl);(case hx=>rfl);(case hc=>first|exact(uh LL).one|exact(uh LL).two);simp only[nn])|(go_at_call 105;refine(said_any _ _).mono ?_;rintro _ _ ⟨rfl,rfl⟩))
      refine(uh HSh _).mono ?_
      rintro _ w38 ⟨rfl,hb⟩
      replace LL:=hide ((uh LL).on hb)
      clear hb
      cases n1
      ·go_wp2_with (first|go_skip|((with_reducible apply load27);(case ho=>rfl);(case hw=>rfl);(case hx=>rfl);(case hc=>first|exact(uh LL).one|exact(uh LL).two);simp only[nn])|((with_reducible apply load24v);(case ho=>rfl);(case hw=>rfl);(case hx=>rfl);(case hc=>first|exact(uh LL).one|exact(uh LL).two);simp only[nn])|((with_reducible apply load24g);(case ho=>rfl);(case hw=>rfl);(case hx=>rfl);(case hc=>first|exact(uh LL).one|exact(uh LL).two);simp only[nn])|((with_reducible apply load24s);(case ho=>rfl);(case hw=>rfl);(case hx=>rfl);(case hc=>first|exact(uh LL).one|exact(uh LL).two);simp only[nn])|((with_reducible apply load25w);(case ho=>rfl);(case hw=>rfl);(case hx=>rfl);(case hc=>first|exact(uh LL).one|exact(uh LL).two);simp only[nn])|((with_reducible apply load25e);(case ho=>rfl);(case hw=>rfl);(case hx=>rfl);(case hc=>first|exact(uh LL).one|exact(uh LL).two);simp only[nn])|((with_reducible apply load25c);(case ho=>rfl);(case hw=>rfl);(case hx=>rfl);(case hc=>first|exact(uh LL).one|exact(uh LL).two);simp only[nn])|(go_at_call 105;refine(said_any _ _).mono ?_;rintro _ _ ⟨rfl,rfl⟩))
       go_ret
       exact⟨rfl,(uh LL).below⟩
      ·cases w2
       ·go_wp2_with (first|go_skip|((with_reducible apply load27);(case ho=>rfl);(case hw=>rfl);(case hx=>rfl);(case hc=>first|exact(uh LL).one|exact(uh LL).two);simp only[nn])|((with_reducible apply load24v);(case ho=>rfl);(case hw=>rfl);(case hx=>rfl);(case hc=>first|exact(uh LL).one|exact(uh LL).two);simp only[nn])|((with_reducible apply load24g);(case ho=>rfl);(case hw=>rfl);(case hx=>rfl);(case hc=>first|exact(uh LL).one|exact(uh LL).two);simp only[nn])|((with_reducible apply load24s);(case ho=>rfl);(case hw=>rfl);(case hx=>rfl);(case hc=>first|exact(uh LL).one|exact(uh LL).two);simp only[nn])|((with_reducible apply load25w);(case ho=>rfl);(case hw=>rfl);(case hx=>rfl);(case hc=>first|exact(uh LL).one|exact(uh LL).two);simp only[nn])|((with_reducible apply load25e);(case ho=>rfl);(case hw=>rfl);(case hx=>rfl);(case hc=>first|exact(uh LL).one|exact(uh LL).two);simp only[nn])|((with_reducible apply load25c);(case ho=>rfl);(case hw=>rfl);(case hx=>rfl);(case hc=>first|exact(uh LL).one|exact(uh LL).two);simp only[nn])|(go_at_call 105;refine(said_any _ _).mono ?_;rintro _ _ ⟨rfl,rfl⟩))
        refine(uh HV _ (tabs_below (uh HT) (uh LL).below)).mono ?_
        rintro _ w39 ⟨rfl,hb⟩
        replace LL:=hide ((uh LL).on hb)
        clear hb
        go_wp2_with (first|go_skip|((with_reducible apply load27);(case ho=>rfl);(case hw=>rfl);(case hx=>rfl);(case hc=>first|exact(uh LL).one|exact(uh LL).two);simp only[nn])|((with_reducible apply load24v);(case ho=>rfl);(case hw=>rfl);(case hx=>rfl);(case hc=>first|exact(uh LL).one|exact(uh LL).two);simp only[nn])|((with_reducible apply load24g);(case ho=>rfl);(case hw=>rfl);(case hx=>rfl);(case hc=>first|exact(uh LL).one|exact(uh LL).two);simp only[nn])|((with_reducible apply load24s);(case ho=>rfl);(case hw=>rfl);(case hx=>rfl);(case hc=>first|exact(uh LL).one|exact(uh LL).two);simp only[nn])|((with_reducible apply load25w);(case ho=>rfl);(case hw=>rfl);(case hx=>rfl);(case hc=>first|exact(uh LL).one|exact(uh LL).two);simp only[nn])|((with_reducible apply load25e);(case ho=>rfl);(case hw=>rfl);(case hx=>rfl);(case hc=>first|exact(uh LL).one|exact(uh LL).two);simp only[nn])|((with_reducible apply load25c);(case ho=>rfl);(case hw=>rfl);(case hx=>rfl);(case hc=>first|exact(uh LL).one|exact(uh LL).two);simp only[nn])|(go_at_call 105;refine(said_any _ _).mono ?_;rintro _ _ ⟨rfl,rfl⟩))
        go_ret
        exact⟨rfl,(uh LL).below⟩
       ·go_wp2_with (first|go_skip|((with_reducible apply load27);(case ho=>rfl);(case hw=>rfl);(case hx=>rfl);(case hc=>first|exact(uh LL).one|exact(uh LL).two);simp only[nn])|((with_reducible apply load24v);(case ho=>rfl);(case hw=>rfl);(case hx=>rfl);(case hc=>first|exact(uh LL).one|exact(uh LL).two);simp only[nn])|((with_reducible apply load24g);(case ho=>rfl);(case hw=>rfl);(case hx=>rfl);(case hc=>first|exact(uh LL).one|exact(uh LL).two);simp only[nn])|((with_reducible apply load24s);(case ho=>rfl);(case hw=>rfl);(case hx=>rfl);(case hc=>first|exact(uh LL).one|exact(uh LL).two);simp only[nn])|((with_reducible apply load25w);(case ho=>rfl);(case hw=>rfl);(case hx=>rfl);(case hc=>first|exact(uh LL).one|exact(uh LL).two);simp only[nn])|((with_reducible apply load25e);(case ho=>rfl);(case hw=>rfl);(case hx=>rfl);(case hc=>first|exact(uh LL).one|exact(uh LL).two);simp only[nn])|((with_reducible apply load25c);(case ho=>rfl);(case hw=>rfl);(case hx=>rfl);(case hc=>first|exact(uh LL).one|exact(uh LL).two);simp only[nn])|(go_at_call 105;refine(said_any _ _).mono ?_;rintro _ _ ⟨rfl,rfl⟩))
        go_ret
        exact⟨rfl,(uh LL).below⟩
     ·go_wp2_with (first|go_skip|((with_reducible apply load27);(case ho=>rfl);(case hw=>rfl);(case hx=>rfl);(case hc=>first|exact(uh LL).one|exact(uh LL).two);simp only[nn])|((with_reducible apply load24v);(case ho=>rfl);(case hw=>rfl);(case hx=>rfl);(case hc=>first|exact(uh LL).one|exact(uh LL).two);simp only[nn])|((with_reducible apply load24g);(case ho=>rfl);(case hw=>rfl);(case hx=>rfl);(case hc=>first|exact(uh LL).one|exact(uh LL).two);simp only[nn])|((with_reducible apply load24s);(case ho=>rfl);(case hw=>rfl);(case hx=>rfl);(case hc=>first|exact(uh LL).one|exact(uh LL).two);simp only[nn])|((with_reducible apply load25w);(case ho=>rfl);(case hw=>rfl);(case hx=>rfl);(case hc=>first|exact(uh LL).one|exact(uh LL).two);simp only[nn])|((with_reducible apply load25e);(case ho=>rfl);(case hw=>rfl);(case hx=>rfl);(case hc=>first|exact(uh LL).one|exact(uh LL).two);simp only[nn])|((with_reducible apply load25c);(case ho=>rfl);(case hw=>rfl);(case hx=>rfl);(case hc=>first|exact(uh LL).one|exact(uh LL).two);simp only[nn])|(go_at_call 105;refine(said_any _ _).mono ?_;rintro _ _ ⟨rfl,rfl⟩))
      go_ret
      exact⟨rfl,(uh LL).below⟩
    ·go_wp2_with (first|go_skip|((with_reducible apply load27);(case ho=>rfl);(case hw=>rfl);(case hx=>rfl);(case hc=>first|exact(uh LL).one|exact(uh LL).two);simp only[nn])|((with_reducible apply load24v);(case ho=>rfl);(case hw=>rfl);(case hx=>rfl);(case hc=>first|exact(uh LL).one|exact(uh LL).two);simp only[nn])|((with_reducible apply load24g);(case ho=>rfl);(case hw=>rfl);(case hx=>rfl);(case hc=>first|exact(uh LL).one|exact(uh LL).two);simp only[nn])|((with_reducible apply load24s);(case ho=>rfl);(case hw=>rfl);(case hx=>rfl);(case hc=>first|exact(uh LL).one|exact(uh LL).two);simp only[nn])|((with_reducible apply load25w);(case ho=>rfl);(case hw=>rfl);(case hx=>rfl);(case hc=>first|exact(uh LL).one|exact(uh LL).two);simp only[nn])|((with_reducible apply load25e);(case ho=>rfl);(case hw=>rfl);(case hx=>rfl);(case hc=>first|exact(uh LL).one|exact(uh LL).two);simp only[nn])|((with_reducible apply load25c);(case ho=>rfl);(case hw=>rfl);(case hx=>rfl);(case hc=>first|exact(uh LL).one|exact(uh LL).two);simp only[nn])|(go_at_call 105;refine(said_any _ _).mono ?_;rintro _ _ ⟨rfl,rfl⟩))
     go_ret
     exact⟨rfl,(uh LL).below⟩
  ·go_wp2_with (first|go_skip|((with_reducible apply load27);(case ho=>rfl);(case hw=>rfl);(case hx=>rfl);(case hc=>first|exact(uh LL).one|exact(uh LL).two);simp only[nn])|((with_reducible apply load24v);(case ho=>rfl);(case hw=>rfl);(case hx=>rfl);(case hc=>first|exact(uh LL).one|exact(uh LL).two);simp only[nn])|((with_reducible apply load24g);(case ho=>rfl);(case hw=>rfl);(case hx=>rfl);(case hc=>first|exact(uh LL).one|exact(uh LL).two);simp only[nn])|((with_reducible apply load24s);(case ho=>rfl);(case hw=>rfl);(case hx=>rfl);(case hc=>first|exact(uh LL).one|exact(uh LL).two);simp only[nn])|((with_reducible apply load25w);(case ho=>rfl);(case hw=>rfl);(case hx=>rfl);(case hc=>first|exact(uh LL).one|exact(uh LL).two);simp only[nn])|((with_reducible apply load25e);(case ho=>rfl);(case hw=>rfl);(case hx=>rfl);(case hc=>first|exact(uh LL).one|exact(uh LL).two);simp only[nn])|((with_reducible apply load25c);(case ho=>rfl);(case hw=>rfl);(case hx=>rfl);(case hc=>first|exact(uh LL).one|exact(uh LL).two);simp only[nn])|(go_at_call 105;refine(said_any _ _).mono ?_;rintro _ _ ⟨rfl,rfl⟩))
   go_ret
   exact⟨rfl,(uh LL).below⟩
