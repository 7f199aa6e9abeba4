import Derived.Test.YthjnflilfjcgiaaGreatFmtQi
set_option linter.all false
namespace Go.Proofs.YthjnflilfjcgiaaGreatFmt
set_option maxRecDepth 100000
set_option maxHeartbeats 0
section
open Go.RowKit FM
attribute [local go_sem] bits_run run_store_floatD
def okE (g:Bool) (r:Bool):Value:= .tuple #[.bool (g && r), .int .i64 (errB g)]
theorem hold_any (f:FuncId) (cmp:Nat->Nat->Bool) (a b:VV)
  (hn: ∀w,Calls Tryz.prog 131 #[.iface 94 (.float .f64 a.x), .iface 94 (.float .f64 b.x), .func (.func f) #[] #[]] w fun e w'=>e= .returned (.bool (cmp a.x b.x))/\Below w.heap.size w w') (w:World) (hT:Lib.Utf8Tabs 4 5 w):
  Calls Tryz.prog 129 #[a.agg,b.agg, .func (.func f) #[] #[]] w fun e w'=>e= .returned (okE (a.good && b.good) (alikeV cmp a b))/\Below w.heap.size w w':=by
 have HT:=hide hT
 clear hT
 have HI:=hide (inside_any a.k a.b a.x a.s a.i)
 have HJ:=hide (inside_any b.k b.b b.x b.s b.i)
 have HA:=hide (fun ha hb=>alike_good f cmp a b ha hb hn)
 clear hn
 have e1:goodV a.k a.b a.x a.s a.i=a.good:=rfl
 have e2:goodV b.k b.b b.x b.s b.i=b.good:=rfl
 rw[e1] at HI
 rw[e2] at HJ
 cases hg:a.good
 ·rw[hg] at HI
  generalize ifcV ⟨a.k,a.b,a.x,a.s,a.i⟩=fa at *
  generalize ifcV ⟨b.k,b.b,b.x,b.s,b.i⟩=fb at *
  generalize b.good=gb at *
  clear HA e1 e2 hg
  generalize alikeV cmp a b=r
  obtain⟨k,c,x,s,i⟩:=a
  obtain⟨k',c',x',s',i'⟩:=b
  unfold VV.agg at *
  dsimp only at *
  cases gb
  all_goals
   go_enter Tryz.func129,Tryz.ntmps129
   go_wp2_with fail
   refine(uh HI _ (tabs_below (uh HT) (below2 w _ _))).mono ?_
   rintro e w1 ⟨rfl,hb⟩
   have hB:=(below2 w _ _).trans (hb.mono (by simp;omega))
   obtain⟨r0,r1,r2,r3,r4,rf,rl⟩:=five_below (five_new _ (w.heap.size+1) _ _ _ _ _ _ (by simp)) hb
   clear hb
   go_wp2_with fail
   refine(uh HJ _ (tabs_below (uh HT) hB)).mono ?_
   rintro e w2 ⟨rfl,hb⟩
   go_wp2
   go_ret2
   exact⟨by simp[okE,errB],hB.trans (hb.mono hB.size)⟩
 ·rw[hg,ifcV_good (v:=⟨a.k,a.b,a.x,a.s,a.i⟩) hg] at HI
  have e3:VV.ifc ⟨a.k,a.b,a.x,a.s,a.i⟩=a.ifc:=rfl
  rw[e3] at HI
  cases hh:b.good
  ·rw[hh] at HJ
   generalize ifcV ⟨b.k,b.b,b.x,b.s,b.i⟩=fb at *
   clear HA e1 e2 e3 hg hh
   generalize alikeV cmp a b=r
   generalize a.ifc=fa at *
   obtain⟨k,c,x,s,i⟩:=a
   obtain⟨k',c',x',s',i'⟩:=b
   unfold VV.agg at *
   dsimp only at *
   go_enter Tryz.func129,Tryz.ntmps129
   go_wp2_with fail
   refine(uh HI _ (tabs_below (uh HT) (below2 w _ _))).mono ?_
   rintro e w1 ⟨rfl,hb⟩
   have hB:=(below2 w _ _).trans (hb.mono (by simp;omega))
   obtain⟨r0,r1,r2,r3,r4,rf,rl⟩:=five_below (five_new _ (w.heap.size+1) _ _ _ _ _ _ (by simp)) hb
   clear hb
   go_wp2_with fail
   refine(uh HJ _ (tabs_below (uh HT) hB)).mono ?_
   rintro e w2 ⟨rfl,hb⟩
   go_wp2
   go_ret2
   exact⟨by simp[okE,errB],hB.trans (hb.mono hB.size)⟩
  ·rw[hh,ifcV_good (v:=⟨b.k,b.b,b.x,b.s,b.i⟩) hh] at HJ
   have e4:VV.ifc ⟨b.k,b.b,b.x,b.s,b.i⟩=b.ifc:=rfl
   rw[e4] at HJ
   have HA':=hide (uh HA hg hh)
   clear HA e1 e2 e3 e4 hg hh
   generalize alikeV cmp a b=r at *
   generalize a.ifc=fa at *
   generalize b.ifc=fb at *
   obtain⟨k,c,x,s,i⟩:=a
   obtain⟨k',c',x',s',i'⟩:=b
   unfold VV.agg at *
   dsimp only at *
   go_enter Tryz.func129,Tryz.ntmps129
   go_wp2_with fail
   refine(uh HI _ (tabs_below (uh HT) (below2 w _ _))).mono ?_
   rintro e w1 ⟨rfl,hb⟩
   have hB:=(below2 w _ _).trans (hb.mono (by simp;omega))
   obtain⟨r0,r1,r2,r3,r4,rf,rl⟩:=five_below (five_new _ (w.heap.size+1) _ _ _ _ _ _ (by simp)) hb
   clear hb
   go_wp2_with fail
   refine(uh HJ _ (tabs_below (uh HT) hB)).mono ?_
   rintro e w2 ⟨rfl,hb⟩
   have hB2:=hB.trans (hb.mono hB.size)
   clear hb r0 r1 r2 r3 r4 rf rl
   go_wp2_with fail
   refine(uh HA' _).mono ?_
   rintro e w3 ⟨rfl,hb⟩
   go_wp2
   go_ret2
   exact⟨by simp[okE,errB],hB2.trans (hb.mono hB2.size)⟩
theorem valueSame_any (a b:VV) (w:World) (hT:Lib.Utf8Tabs 4 5 w):
  Calls Tryz.prog 127 #[a.agg,b.agg] w fun e w'=>e= .returned (okE (a.good && b.good) (alikeV sameV a b))/\Below w.heap.size w w':=by
 have HT:=hide hT
 have HH:=hide (hold_any 130 sameV a b (alike_num_same a.x b.x))
 clear hT
 unfold okE at *
 generalize (a.good && b.good)=g at *
 generalize alikeV sameV a b=r at *
 obtain⟨k,c,x,s,i⟩:=a
 obtain⟨k',c',x',s',i'⟩:=b
 unfold VV.agg at *
 dsimp only at *
 go_enter Tryz.func127,Tryz.ntmps127
 go_wp2_with fail
 refine(uh HH _ (tabs_below (uh HT) (below2 w _ _))).mono ?_
 rintro e w1 ⟨rfl,hb⟩
 go_wp2
 go_ret2
 exact⟨rfl,(below2 w _ _).trans (hb.mono (by simp;omega))⟩
