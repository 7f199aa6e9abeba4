import Derived.Test.YtlpdllcedgnaaaaGreatDoorQj
set_option linter.all false
namespace Go.Proofs.YtlpdllcedgnaaaaGreatDoor
set_option maxRecDepth 100000
set_option maxHeartbeats 0
section
open Go.RowKit FM
attribute [local go_sem] Gk Dl
def okE (g:Bool) (r:Bool):Value:= .tuple #[.bool (g && r), .int .i64 (Py g)]
theorem hold_any (f:FuncId) (cmp:Nat->Nat->Bool) (a b:VV)
  (hn: ∀w,Calls Tryz.prog 140 #[.iface 112 (.float .f64 a.x), .iface 112 (.float .f64 b.x), .func (.func f) #[] #[]] w fun e w'=>e= .returned (.bool (cmp a.x b.x))/\Below w.heap.size w w') (w:World) (hT:Lib.Utf8Tabs 0 1 w):
  Calls Tryz.prog 138 #[a.agg,b.agg, .func (.func f) #[] #[]] w fun e w'=>e= .returned (okE (a.good && b.good) (Ei cmp a b))/\Below w.heap.size w w':=by
 have HT:=Ab hT
 clear hT
 have HI:=Ab (Jy a.k a.b a.x a.s a.i)
 have HJ:=Ab (Jy b.k b.b b.x b.s b.i)
 have HA:=Ab (fun ha hb=>Zb2 f cmp a b ha hb hn)
 clear hn
 have e1:Gi a.k a.b a.x a.s a.i=a.good:=rfl
 have e2:Gi b.k b.b b.x b.s b.i=b.good:=rfl
 rw[e1] at HI
 rw[e2] at HJ
 cases hg:a.good
 ·rw[hg] at HI
  generalize ZaL ⟨a.k,a.b,a.x,a.s,a.i⟩=fa at *
  generalize ZaL ⟨b.k,b.b,b.x,b.s,b.i⟩=fb at *
  generalize b.good=gb at *
  clear HA e1 e2 hg
  generalize Ei cmp a b=r
  obtain⟨k,c,x,s,i⟩:=a
  obtain⟨k',c',x',s',i'⟩:=b
  unfold VV.agg at *
  dsimp only at *
  cases gb
  all_goals
   go_enter Tryz.func138,Tryz.ntmps138
   go_wp2_with fail
   refine(Aa HI _ (Ag (Aa HT) (Jc w _ _))).mono ?_
   rintro e w1 ⟨rfl,hb⟩
   have hB:=(Jc w _ _).trans (hb.mono (by simp;omega))
   obtain⟨r0,r1,r2,r3,r4,rf,rl⟩:=Lp (Ox _ (w.heap.size+1) _ _ _ _ _ _ (by simp)) hb
   clear hb
   go_wp2_with fail
   refine(Aa HJ _ (Ag (Aa HT) hB)).mono ?_
   rintro e w2 ⟨rfl,hb⟩
   go_wp2
   go_ret2
   exact⟨by simp[okE,Py],hB.trans (hb.mono hB.size)⟩
 ·rw[hg,Pp (v:=⟨a.k,a.b,a.x,a.s,a.i⟩) hg] at HI
  have e3:VV.ifc ⟨a.k,a.b,a.x,a.s,a.i⟩=a.ifc:=rfl
  rw[e3] at HI
  cases hh:b.good
  ·rw[hh] at HJ
   generalize ZaL ⟨b.k,b.b,b.x,b.s,b.i⟩=fb at *
   clear HA e1 e2 e3 hg hh
   generalize Ei cmp a b=r
   generalize a.ifc=fa at *
   obtain⟨k,c,x,s,i⟩:=a
   obtain⟨k',c',x',s',i'⟩:=b
   unfold VV.agg at *
   dsimp only at *
   go_enter Tryz.func138,Tryz.ntmps138
   go_wp2_with fail
   refine(Aa HI _ (Ag (Aa HT) (Jc w _ _))).mono ?_
   rintro e w1 ⟨rfl,hb⟩
   have hB:=(Jc w _ _).trans (hb.mono (by simp;omega))
   obtain⟨r0,r1,r2,r3,r4,rf,rl⟩:=Lp (Ox _ (w.heap.size+1) _ _ _ _ _ _ (by simp)) hb
   clear hb
   go_wp2_with fail
   refine(Aa HJ _ (Ag (Aa HT) hB)).mono ?_
   rintro e w2 ⟨rfl,hb⟩
   go_wp2
   go_ret2
   exact⟨by simp[okE,Py],hB.trans (hb.mono hB.size)⟩
  ·rw[hh,Pp (v:=⟨b.k,b.b,b.x,b.s,b.i⟩) hh] at HJ
   have e4:VV.ifc ⟨b.k,b.b,b.x,b.s,b.i⟩=b.ifc:=rfl
   rw[e4] at HJ
   have HA':=Ab (Aa HA hg hh)
   clear HA e1 e2 e3 e4 hg hh
   generalize Ei cmp a b=r at *
   generalize a.ifc=fa at *
   generalize b.ifc=fb at *
   obtain⟨k,c,x,s,i⟩:=a
   obtain⟨k',c',x',s',i'⟩:=b
   unfold VV.agg at *
   dsimp only at *
   go_enter Tryz.func138,Tryz.ntmps138
   go_wp2_with fail
   refine(Aa HI _ (Ag (Aa HT) (Jc w _ _))).mono ?_
   rintro e w1 ⟨rfl,hb⟩
   have hB:=(Jc w _ _).trans (hb.mono (by simp;omega))
   obtain⟨r0,r1,r2,r3,r4,rf,rl⟩:=Lp (Ox _ (w.heap.size+1) _ _ _ _ _ _ (by simp)) hb
   clear hb
   go_wp2_with fail
   refine(Aa HJ _ (Ag (Aa HT) hB)).mono ?_
   rintro e w2 ⟨rfl,hb⟩
   have hB2:=hB.trans (hb.mono hB.size)
   clear hb r0 r1 r2 r3 r4 rf rl
   go_wp2_with fail
   refine(Aa HA' _).mono ?_
   rintro e w3 ⟨rfl,hb⟩
   go_wp2
   go_ret2
   exact⟨by simp[okE,Py],hB2.trans (hb.mono hB2.size)⟩
theorem Vk (a b:VV) (w:World) (hT:Lib.Utf8Tabs 0 1 w):
  Calls Tryz.prog 137 #[a.agg,b.agg] w fun e w'=>e= .returned (okE (a.good && b.good) (Ei Jr a b))/\Below w.heap.size w w':=by
 have HT:=Ab hT
 have HH:=Ab (hold_any 139 Jr a b (Vi a.x b.x))
 clear hT
 unfold okE at *
 generalize (a.good && b.good)=g at *
 generalize Ei Jr a b=r at *
 obtain⟨k,c,x,s,i⟩:=a
 obtain⟨k',c',x',s',i'⟩:=b
 unfold VV.agg at *
 dsimp only at *
 go_enter Tryz.func137,Tryz.ntmps137
 go_wp2_with fail
 refine(Aa HH _ (Ag (Aa HT) (Jc w _ _))).mono ?_
 rintro e w1 ⟨rfl,hb⟩
 go_wp2
 go_ret2
 exact⟨rfl,(Jc w _ _).trans (hb.mono (by simp;omega))⟩
