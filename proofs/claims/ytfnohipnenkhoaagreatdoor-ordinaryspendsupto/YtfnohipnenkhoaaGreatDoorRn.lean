import Derived.Test.YtfnohipnenkhoaaGreatDoorRj
import Derived.Test.YtfnohipnenkhoaaGreatDoorRk
import Derived.Test.YtfnohipnenkhoaaGreatDoorRl
import Derived.Test.YtfnohipnenkhoaaGreatDoorRm
set_option linter.all false
namespace Go.Proofs.YtfnohipnenkhoaaGreatDoor
set_option maxRecDepth 100000
set_option maxHeartbeats 0
section
open Go Go.Proofs Go.Maps Go.RowKit FM Tryz
theorem Vr (h:HP) (o:Int)  (N:Nat) (w:World) (H:h.Is w) (G:h.Gd N) (hN:N<=90000) (hT:Tabs w):Calls prog 60 #[.pointer (some ⟨h.b,0,none⟩), .int .i64 o] w fun e w'=> ∃(h1:HP) (V:VV) (er:Value),e= .returned (.tuple #[V.agg,er])/\((thE o h.l.length≠0/\er=Br (thE o h.l.length)/\h1=h)∨(thE o h.l.length=0/\ ∃(j:Nat) (q:OB),o=(j:Int)+1/\h.l[j]? =some q/\((Low h h1/\True)/\Jg h h1 er)))/\h.To h1 w w':=by
 refine Us h o  w H G.wf.ok.len hT (fun h1 V er=> ∃(j:Nat) (q:OB),o=(j:Int)+1/\h.l[j]? =some q/\((Low h h1/\True)/\Jg h h1 er)) (fun j q X ho hj hc TX=> ?_)
 have HC:=proto_en h j q _ TX.is N G hj
 refine HC.mono ?_
 rintro e Y ⟨h1,V,er,rfl,hP,T9⟩
 exact⟨h1,V,er,rfl,⟨j,q,ho,hj,hP⟩,T9⟩
theorem Zal (h:HP) (o:Int)  (N:Nat) (w:World) (H:h.Is w) (G:h.Gd N) (hN:N<=90000) (hT:Tabs w):Calls prog 62 #[.pointer (some ⟨h.b,0,none⟩), .int .i64 o] w fun e w'=> ∃(h1:HP) (y:Bool) (er:Value),e= .returned (.tuple #[.bool y,er])/\((thE o h.l.length≠0/\er=Br (thE o h.l.length)/\h1=h/\y=false)∨(thE o h.l.length=0/\ ∃(j:Nat) (q:OB),o=(j:Int)+1/\h.l[j]? =some q/\((Low h h1/\True)/\Jg h h1 er)))/\h.To h1 w w':=by
 refine Yh h o  w H G.wf.ok.len hT (fun h1 y er=> ∃(j:Nat) (q:OB),o=(j:Int)+1/\h.l[j]? =some q/\((Low h h1/\True)/\Jg h h1 er)) (fun j q X ho hj hc TX=> ?_)
 have HC:=ext_en h j q _ TX.is N G hj
 refine HC.mono ?_
 rintro e Y ⟨h1,y,er,rfl,hP,T9⟩
 exact⟨h1,y,er,rfl,⟨j,q,ho,hj,hP⟩,T9⟩
theorem Qo (h:HP) (o:Int)  (N:Nat) (w:World) (H:h.Is w) (G:h.Gd N) (hN:N<=90000) (hT:Tabs w):Calls prog 63 #[.pointer (some ⟨h.b,0,none⟩), .int .i64 o] w fun e w'=> ∃(h1:HP) (y:Bool) (er:Value),e= .returned (.tuple #[.bool y,er])/\((thE o h.l.length≠0/\er=Br (thE o h.l.length)/\h1=h/\y=false)∨(thE o h.l.length=0/\ ∃(j:Nat) (q:OB),o=(j:Int)+1/\h.l[j]? =some q/\((((y=false/\Low h h1)∨(y=true/\er= .nilIface/\Low (h.shut j q) h1)))/\Jg h h1 er)))/\h.To h1 w w':=by
 refine Pq h o  w H G.wf.ok.len hT (fun h1 y er=> ∃(j:Nat) (q:OB),o=(j:Int)+1/\h.l[j]? =some q/\((((y=false/\Low h h1)∨(y=true/\er= .nilIface/\Low (h.shut j q) h1)))/\Jg h h1 er)) (fun j q X ho hj hc TX=> ?_)
 have HC:=prev_en h j q _ TX.is N G hj
 refine HC.mono ?_
 rintro e Y ⟨h1,y,er,rfl,hP,T9⟩
 exact⟨h1,y,er,rfl,⟨j,q,ho,hj,hP⟩,T9⟩
theorem Uu (h:HP) (o:Int)  (N:Nat) (w:World) (H:h.Is w) (G:h.Gd N) (hN:N<=90000) (hT:Tabs w):Calls prog 67 #[.pointer (some ⟨h.b,0,none⟩), .int .i64 o] w fun e w'=> ∃(h1:HP) (V:Value) (er:Value),e= .returned (.tuple #[V,er])/\((thE o h.l.length≠0/\er=Br (thE o h.l.length)/\h1=h/\V= .slice none 0 0)∨(thE o h.l.length=0/\ ∃(j:Nat) (q:OB),o=(j:Int)+1/\h.l[j]? =some q/\((Low h h1/\(∃A n c,V= .slice A n c))/\Jg h h1 er)))/\h.To h1 w w':=by
 refine Rj h o  w H G.wf.ok.len hT (fun h1 V er=> ∃(j:Nat) (q:OB),o=(j:Int)+1/\h.l[j]? =some q/\((Low h h1/\(∃A n c,V= .slice A n c))/\Jg h h1 er)) (fun j q X ho hj hc TX=> ?_)
 have HC:=keys_en h j q _ TX.is N G hj hN (TX.tabs H hT)
 refine HC.mono ?_
 rintro e Y ⟨h1,V,er,rfl,hP,T9⟩
 exact⟨h1,V,er,rfl,⟨j,q,ho,hj,hP⟩,T9⟩
theorem Vs (h:HP) (o:Int) (k:KK) (N:Nat) (w:World) (H:h.Is w) (G:h.Gd N) (hN:N<=90000) (hT:Tabs w) (hk:OkK k):Calls prog 64 #[.pointer (some ⟨h.b,0,none⟩), .int .i64 o,k.agg] w fun e w'=> ∃(h1:HP) (V:DD) (y:Bool) (er:Value),e= .returned (.tuple #[V.agg, .bool y,er])/\((orE [thE o h.l.length,Bl k]≠0/\er=Br (orE [thE o h.l.length,Bl k])/\h1=h)∨(orE [thE o h.l.length,Bl k]=0/\ ∃(j:Nat) (q:OB),o=(j:Int)+1/\h.l[j]? =some q/\((Low h h1)/\Jg h h1 er)))/\h.To h1 w w':=by
 refine Ut h o k w H G.wf.ok.len hT (fun h1 V y er=> ∃(j:Nat) (q:OB),o=(j:Int)+1/\h.l[j]? =some q/\((Low h h1)/\Jg h h1 er)) (fun j q X ho hj hc TX=> ?_)
 have HC:=(Zc2 h j q k _ TX.is G.wf.ok hj hk).mono (fun e w' hh=>by obtain⟨h1,V,y,er,a,b,c⟩:=hh;exact(⟨h1,V,y,er,a,⟨b.1,b.2.1⟩,c⟩: ∃(h1:HP) (V:DD) (y:Bool) (er:Value),e= .returned (.tuple #[V.agg, .bool y,er])/\((Low h h1)/\Jg h h1 er)/\h.To h1 _ w'))
 refine HC.mono ?_
 rintro e Y ⟨h1,V,y,er,rfl,hP,T9⟩
 exact⟨h1,V,y,er,rfl,⟨j,q,ho,hj,hP⟩,T9⟩
theorem ZaE (h:HP) (o:Int) (k:KK) (N:Nat) (w:World) (H:h.Is w) (G:h.Gd N) (hN:N<=90000) (hT:Tabs w) (hk:OkK k):Calls prog 65 #[.pointer (some ⟨h.b,0,none⟩), .int .i64 o,k.agg] w fun e w'=> ∃(h1:HP) (y:Bool) (er:Value),e= .returned (.tuple #[.bool y,er])/\((orE [thE o h.l.length,Bl k]≠0/\er=Br (orE [thE o h.l.length,Bl k])/\h1=h/\y=false)∨(orE [thE o h.l.length,Bl k]=0/\ ∃(j:Nat) (q:OB),o=(j:Int)+1/\h.l[j]? =some q/\((Low h h1)/\Jg h h1 er)))/\h.To h1 w w':=by
 refine Zak h o k w H G.wf.ok.len hT (fun h1 y er=> ∃(j:Nat) (q:OB),o=(j:Int)+1/\h.l[j]? =some q/\((Low h h1)/\Jg h h1 er)) (fun j q X ho hj hc TX=> ?_)
 have HC:=has_en h j q k _ TX.is G.wf hj hk
 refine HC.mono ?_
 rintro e Y ⟨h1,y,er,rfl,hP,T9⟩
 exact⟨h1,y,er,rfl,⟨j,q,ho,hj,hP⟩,T9⟩
theorem doDelete (h:HP) (o:Int) (k:KK) (N:Nat) (w:World) (H:h.Is w) (G:h.Gd N) (hN:N<=90000) (hT:Tabs w) (hk:OkK k):Calls prog 66 #[.pointer (some ⟨h.b,0,none⟩), .int .i64 o,k.agg] w fun e w'=> ∃(h1:HP) (y:Bool) (er:Value),e= .returned (.tuple #[.bool y,er])/\((orE [thE o h.l.length,Bl k]≠0/\er=Br (orE [thE o h.l.length,Bl k])/\h1=h/\y=false)∨(orE [thE o h.l.length,Bl k]=0/\ ∃(j:Nat) (q:OB),o=(j:Int)+1/\h.l[j]? =some q/\((((y=false/\Low h h1)∨(er= .nilIface/\((y=true/\Low h h1)∨(y=true/\ ∃T':TT,Low (h.tab j q T') h1/\T'.last=q.T.last/\pr T'=ZeR (pr q.T) k)))))/\Jg h h1 er)))/\h.To h1 w w':=by
 refine ZeQ h o k w H G.wf.ok.len hT (fun h1 y er=> ∃(j:Nat) (q:OB),o=(j:Int)+1/\h.l[j]? =some q/\((((y=false/\Low h h1)∨(er= .nilIface/\((y=true/\Low h h1)∨(y=true/\ ∃T':TT,Low (h.tab j q T') h1/\T'.last=q.T.last/\pr T'=ZeR (pr q.T) k)))))/\Jg h h1 er)) (fun j q X ho hj hc TX=> ?_)
 have HC:=del_en h j q k _ TX.is N G hj hN hk
 refine HC.mono ?_
 rintro e Y ⟨h1,y,er,rfl,hP,T9⟩
 exact⟨h1,y,er,rfl,⟨j,q,ho,hj,hP⟩,T9⟩
theorem doGet (h:HP) (o:Int) (k:KK) (r:VV) (N:Nat) (w:World) (H:h.Is w) (G:h.Gd N) (hN:N<=90000) (hT:Tabs w) (hk:OkK k):Calls prog 19 #[.pointer (some ⟨h.b,0,none⟩), .int .i64 o,k.agg,r.agg] w fun e w'=> ∃(h1:HP) (V:VV) (er:Value),e= .returned (.tuple #[V.agg,er])/\((orE [thE o h.l.length,Bl k,Bh [r],Aw h.l.length [r]]≠0/\er=Br (orE [thE o h.l.length,Bl k,Bh [r],Aw h.l.length [r]])/\h1=h)∨(orE [thE o h.l.length,Bl k,Bh [r],Aw h.l.length [r]]=0/\ ∃(j:Nat) (q:OB),o=(j:Int)+1/\h.l[j]? =some q/\((Low h h1)/\Jg h h1 er)))/\h.To h1 w w':=by
 refine dorGet h o k r w H G.wf.ok.len hT (fun h1 V er=> ∃(j:Nat) (q:OB),o=(j:Int)+1/\h.l[j]? =some q/\((Low h h1)/\Jg h h1 er)) (fun j q X ho hj hc TX=> ?_)
 have HC:=get_en h j q k r _ TX.is G.wf hj hk
 refine HC.mono ?_
 rintro e Y ⟨h1,V,er,rfl,hP,T9⟩
 exact⟨h1,V,er,rfl,⟨j,q,ho,hj,hP⟩,T9⟩
theorem Vq (h:HP) (o:Int) (v:VV) (N:Nat) (w:World) (H:h.Is w) (G:h.Gd N) (hN:N<=90000) (hT:Tabs w):Calls prog 61 #[.pointer (some ⟨h.b,0,none⟩), .int .i64 o,v.agg] w fun e w'=> ∃(h1:HP) (y:Bool) (er:Value),e= .returned (.tuple #[.bool y,er])/\((orE [thE o h.l.length,Bh [v],Aw h.l.length [v],Da v]≠0/\er=Br (orE [thE o h.l.length,Bh [v],Aw h.l.length [v],Da v])/\h1=h/\y=false)∨(orE [thE o h.l.length,Bh [v],Aw h.l.length [v],Da v]=0/\ ∃(j:Nat) (q:OB),o=(j:Int)+1/\h.l[j]? =some q/\((((y=false/\Low h h1)∨(er= .nilIface/\(Low h h1∨(y=true/\Low (h.prot j q v) h1/\q.x=true/\ ∀i:Nat,v.k=7->v.i=(i:Int)+1-> ¬Rch h j i)))))/\Jg h h1 er)))/\h.To h1 w w':=by
 refine Ur h o v w H G.wf.ok.len hT (fun h1 y er=> ∃(j:Nat) (q:OB),o=(j:Int)+1/\h.l[j]? =some q/\((((y=false/\Low h h1)∨(er= .nilIface/\(Low h h1∨(y=true/\Low (h.prot j q v) h1/\q.x=true/\ ∀i:Nat,v.k=7->v.i=(i:Int)+1-> ¬Rch h j i)))))/\Jg h h1 er)) (fun j q X ho hj hc TX=> ?_)
 have hv:=Qv (Ep hc (Aw h.l.length [v]) (by simp)) v (by simp)
 have HC:=setp_en h j q v _ TX.is N G hj hv
 refine HC.mono ?_
 rintro e Y ⟨h1,y,er,rfl,hP,T9⟩
 exact⟨h1,y,er,rfl,⟨j,q,ho,hj,hP⟩,T9⟩
theorem doSet (h:HP) (o:Int) (k:KK) (v:VV) (r:VV) (N:Nat) (w:World) (H:h.Is w) (G:h.Gd N) (hN:N<=90000) (hT:Tabs w) (hk:OkK k) (hvx:v.x<2^64):Calls prog 20 #[.pointer (some ⟨h.b,0,none⟩), .int .i64 o,k.agg,v.agg,r.agg] w fun e w'=> ∃(h1:HP) (y:Bool) (er:Value),e= .returned (.tuple #[.bool y,er])/\((orE [thE o h.l.length,Bl k,Bh [v,r],Aw h.l.length [v,r]]≠0/\er=Br (orE [thE o h.l.length,Bl k,Bh [v,r],Aw h.l.length [v,r]])/\h1=h/\y=false)∨(orE [thE o h.l.length,Bl k,Bh [v,r],Aw h.l.length [v,r]]=0/\ ∃(j:Nat) (q:OB),o=(j:Int)+1/\h.l[j]? =some q/\((SetP h r k v h1 y er)/\Jg h h1 er)))/\h.To h1 w w':=by
 refine dorSet h o k v r w H G.wf.ok.len hT (fun h1 y er=> ∃(j:Nat) (q:OB),o=(j:Int)+1/\h.l[j]? =some q/\((SetP h r k v h1 y er)/\Jg h h1 er)) (fun j q X ho hj hc TX=> ?_)
 have hg:=Ve (Ep hc (Bl k) (by simp))
 have hr:=Qv (Ep hc (Aw h.l.length [v,r]) (by simp)) r (by simp)
 have HC:=set_en h j q k v r _ TX.is G.wf (fun i q hi=>Nat.le_trans (G.few i q hi) hN) hj (TX.tabs H hT) hk hg hvx hr
 refine HC.mono ?_
 rintro e Y ⟨h1,y,er,rfl,hP,T9⟩
 exact⟨h1,y,er,rfl,⟨j,q,ho,hj,hP⟩,T9⟩
theorem Qp (h:HP) (o:Int) (k:KK) (d:DD) (N:Nat) (w:World) (H:h.Is w) (G:h.Gd N) (hN:N<=90000) (hT:Tabs w) (hk:OkK k) (hFd:FD d):Calls prog 18 #[.pointer (some ⟨h.b,0,none⟩), .int .i64 o,k.agg,d.agg] w fun e w'=> ∃(h1:HP) (y:Bool) (er:Value),e= .returned (.tuple #[.bool y,er])/\((orE [thE o h.l.length,Bl k,Ez d,Aw h.l.length [d.v,d.g,d.s],Gg [d.g,d.s]]≠0/\er=Br (orE [thE o h.l.length,Bl k,Ez d,Aw h.l.length [d.v,d.g,d.s],Gg [d.g,d.s]])/\h1=h/\y=false)∨(orE [thE o h.l.length,Bl k,Ez d,Aw h.l.length [d.v,d.g,d.s],Gg [d.g,d.s]]=0/\ ∃(j:Nat) (q:OB),o=(j:Int)+1/\h.l[j]? =some q/\((DefE h j q k d h1 y er)/\Jg h h1 er)))/\h.To h1 w w':=by
 refine Lq h o k d w H G.wf.ok.len hT hFd (fun h1 y er=> ∃(j:Nat) (q:OB),o=(j:Int)+1/\h.l[j]? =some q/\((DefE h j q k d h1 y er)/\Jg h h1 er)) (fun j q X ho hj hc TX=> ?_)
 have hg:=Ve (Ep hc (Bl k) (by simp))
 have HC:=Zdo h j q k d _ TX.is G.wf (fun i q hi=>Nat.le_trans (G.few i q hi) hN) hj (TX.tabs H hT) hk hg hFd
 refine HC.mono ?_
 rintro e Y ⟨h1,y,er,rfl,hP,T9⟩
 exact⟨h1,y,er,rfl,⟨j,q,ho,hj,hP⟩,T9⟩
end
section
open Go Go.Proofs Go.Maps Go.RowKit FM Tryz
attribute [local go_sem] Ao Am Au Ah Ap Ai Ax Dn Dm Bq Aj Bp
def MakeP (h:HP) (v:VV) (w:World) (e:Ending) (w':World):Prop:=(e= .returned (.tuple #[.int .i64 0,Br (orE [El h.l.length v,Da v,Jr h])])/\orE [El h.l.length v,Da v,Jr h]≠0/\h.To h w w')∨(orE [El h.l.length v,Da v,Jr h]=0/\ ∃(gv:Value) (q:OB),e= .returned (.tuple #[.int .i64 ((h.l.length:Int)+1), .nilIface])/\q.c=1/\q.p=v/\q.x=true/\pr q.T= []/\q.T.last=0/\h.To (h.more gv q) w w')
theorem ex_b91 {o:Oper} {a:Act} {w:World} (ho:o.op= .build 91 #[]):(execOp a.eval o).run prog w= .ok (.value (.agg #[])) w:=by
 have e:(Instr.build 91 #[]).run prog w= .ok (.agg #[]) w:=by kernel_rfl
 unfold execOp
 simp only[ho]
 simp[e]
theorem Zbs (h:HP) (v:VV) (w:World) (H:h.Is w) (hT:Tabs w) (hl:h.l.length<=65536):Calls prog 17 #[.pointer (some ⟨h.b,0,none⟩),v.agg] w (MakeP h v w):=by
 have SS:=Ab H.start
 rw[By]
 go_enter func17,ntmps17
 go_wp2_with (first|go_skip|((with_reducible show wpList ..);first|(refine zB 36 (v.cs) (by rfl) rfl rfl rfl SS ?_;clear SS;intro Xa Ba SS;simp only[nn])|(refine zL (v.cs) 36 5 1 rwV szV (by rfl) rfl rfl SS rfl rfl rfl ?_;simp only[nn])|(refine rd rfl (ex_b91 rfl) ?_;simp only[nn])))
 have HC:=add_h h v _ ((Aa SS).hp 0 rfl) (hT.fr (Aa SS).fr H.low) hl
 rw[By] at HC
 refine HC.mono ?_
 have T0:h.To h w _:=HP.To.end H (Aa SS) rfl
 rintro _ Y (⟨rfl,hc,T1⟩|⟨hc,gv,q,rfl,a1,a2,a3,a4,a5,T1⟩)
 ·have HT1:=Ab (T0.trans T1)
  clear T1 T0
  go_wp2
  go_ret2
  exact .inl ⟨rfl,hc,Aa HT1⟩
 ·have HT1:=Ab (T0.trans T1)
  clear T1 T0
  have HA:=Ab (And.intro a1 (And.intro a2 (And.intro a3 (And.intro a4 a5))))
  clear a1 a2 a3 a4 a5
  go_wp2
  go_ret2
  exact .inr ⟨hc,gv,q,rfl,(Aa HA).1,(Aa HA).2.1,(Aa HA).2.2.1,(Aa HA).2.2.2.1,(Aa HA).2.2.2.2,Aa HT1⟩
def HP.fill (h:HP) (n:Int):HP:={h with fuel:=n}
def RefuelP (h:HP) (n:Int) (w:World) (e:Ending) (w':World):Prop:=(n<0/\e= .returned (.int .i64 7)/\h.To h w w')∨(0<=n/\e= .returned (.int .i64 0)/\h.To (h.fill n) w w')
theorem refuel_h (h:HP) (n:Int) (w:World) (H:h.Is w):Calls prog 40 #[.pointer (some ⟨h.b,0,none⟩), .int .i64 n] w (RefuelP h n w):=by
 have SS:=Ab H.start
 by_cases hn:n<0
 ·have d1:decide (n<0)=true:=decide_eq_true hn
  go_enter func40,ntmps40
  go_wp2
  go_ret
  exact .inl ⟨hn,rfl,HP.To.end H (Aa SS) rfl⟩
 ·have d1:decide (n<0)=false:=decide_eq_false hn
  go_enter func40,ntmps40
  go_wp2_with (first|go_skip|((with_reducible show wpList ..);((refine stH (vs:= [.int .i64 n]) (h.fill n) 0 3 (by rfl) rfl rfl rfl rfl (by simp[Value.oneCell']) sz_i (Aa SS) rfl (by simp) rfl rfl rfl (by simp[Bs,hcs,HP.fill]) ?_);intro X1 S1;replace SS:=Ab S1;clear S1;simp only[nn])))
  go_ret
  exact .inr ⟨by omega,rfl,HP.To.end H (Aa SS) rfl⟩
theorem ex_bhp {o:Oper} {a:Act} {w:World} {x1 x2 x3:Operand} (c f d:Int) (ho:o.op= .build 82 #[(1,x1),(2,x2),(3,x3)]) (h1:a.eval x1= .int .i64 c) (h2:a.eval x2= .int .i64 f) (h3:a.eval x3= .int .i64 d):(execOp a.eval o).run prog w= .ok (.value (.agg (hcs ⟨0, .slice none 0 0, [],c,f,d,0⟩).toArray)) w:=by
 have e:(Instr.build 82 #[(1, .int .i64 c),(2, .int .i64 f),(3, .int .i64 d)]).run prog w= .ok (.agg (hcs ⟨0, .slice none 0 0, [],c,f,d,0⟩).toArray) w:=by kernel_rfl
 unfold execOp
 simp only[ho,List.map_toArray,List.map_cons,List.map_nil,h1,h2,h3]
 simp[e]
def Nk (c f d:Int):Bool:=decide (c<0)||(decide (65536<c)||(decide (f<0)||(decide (d<1)||decide (256<d))))
def Jd (b:Nat) (c f d:Int):HP:=⟨b, .slice none 0 0, [],c,f,d,0⟩
theorem new_is {w X:World} {B:Nat} {c f d:Int} (S:Sy w X [] [Aq B (hcs ⟨0, .slice none 0 0, [],c,f,d,0⟩)]) (h6:6<=w.heap.size):(Jd B c f d).Is X:=by
 have hB:=S.hold 0 rfl
 have hlo:w.heap.size<=B:=(S.lo _ (List.mem_cons_self ..) B (List.mem_singleton.2 rfl)).elim (fun h=>by cases h) id
 refine⟨fun o ho=> ?_, ?_,fun b hb=> ?_⟩
 ·rcases List.mem_cons.1 ho with rfl|ho
  ·exact⟨hB,by simp[hcs]⟩
  rcases List.mem_cons.1 ho with rfl|ho
  ·exact⟨rfl, .inl ⟨rfl,rfl⟩⟩
  ·cases ho
 ·simp[HP.things,Jd,Ee,Value.ownBlock]
 ·have:b=B:=by simpa [HP.blocks,HP.things,Jd,Ee,Aq,Value.ownBlock] using hb
  omega
theorem Zc9 (B:Nat) (c f d:Int):(Jd B c f d).blocks= [B]:=by simp[HP.blocks,HP.things,Jd,Ee,Aq,Value.ownBlock]
def NewP (c f d:Int) (w:World) (e:Ending) (w':World):Prop:=(Nk c f d=true/\e= .returned (.tuple #[.pointer none, .int .i64 7])/\Below w.heap.size w w')∨(Nk c f d=false/\ ∃B,e= .returned (.tuple #[.pointer (some ⟨B,0,none⟩), .int .i64 0])/\(Jd B c f d).Is w'/\w.heap.size<=B/\Below w.heap.size w w')
theorem new_h (c f d:Int) (w:World) (h6:6<=w.heap.size):Calls prog 7 #[.int .i64 c, .int .i64 f, .int .i64 d] w (NewP c f d w):=by
 have SS:=Ab (Sy.nil w [])
 by_cases h1:c<0
 ·have d1:decide (c<0)=true:=decide_eq_true h1
  go_enter func7,ntmps7
  go_wp2
  go_ret2
  exact .inl ⟨by unfold Nk;simp[*],rfl,(Aa SS).fr.below⟩
 ·have d1:decide (c<0)=false:=decide_eq_false h1
  by_cases h2:65536<c
  ·have d2:decide (65536<c)=true:=decide_eq_true h2
   go_enter func7,ntmps7
   go_wp2
   go_ret2
   exact .inl ⟨by unfold Nk;simp[*],rfl,(Aa SS).fr.below⟩
  ·have d2:decide (65536<c)=false:=decide_eq_false h2
   by_cases h3:f<0
   ·have d3:decide (f<0)=true:=decide_eq_true h3
    go_enter func7,ntmps7
    go_wp2
    go_ret2
    exact .inl ⟨by unfold Nk;simp[*],rfl,(Aa SS).fr.below⟩
   ·have d3:decide (f<0)=false:=decide_eq_false h3
    by_cases h4:d<1
    ·have d4:decide (d<1)=true:=decide_eq_true h4
     go_enter func7,ntmps7
     go_wp2
     go_ret2
     exact .inl ⟨by unfold Nk;simp[*],rfl,(Aa SS).fr.below⟩
    ·have d4:decide (d<1)=false:=decide_eq_false h4
     by_cases h5:256<d
     ·have d5:decide (256<d)=true:=decide_eq_true h5
      go_enter func7,ntmps7
      go_wp2
      go_ret2
      exact .inl ⟨by unfold Nk;simp[*],rfl,(Aa SS).fr.below⟩
     ·have d5:decide (256<d)=false:=decide_eq_false h5
      go_enter func7,ntmps7
      go_wp2_with (first|go_skip|((with_reducible show wpList ..);first|(refine rd rfl (ex_bhp c f d rfl rfl rfl rfl) ?_;simp only[nn])|(refine zB 82 (hcs ⟨0, .slice none 0 0, [],c,f,d,0⟩) (by rfl) rfl rfl rfl SS ?_;clear SS;intro Xa Ba SS;simp only[nn])))
      go_ret2
      exact .inr ⟨by unfold Nk;simp[*],Ba,rfl,new_is (Aa SS) h6,((Aa SS).lo _ (List.mem_cons_self ..) Ba (List.mem_singleton.2 rfl)).elim (fun h=>by cases h) id,(Aa SS).fr.below⟩
theorem ZdR {h:HP} {N:Nat} (G:h.Gd N) {gv:Value} {q:OB} {v:VV} (hc:orE [El h.l.length v,Da v,Jr h]=0) (hx:v.x<2^64) (a1:q.c=1) (a2:q.p=v) (a3:q.x=true) (a4:pr q.T= []) (a5:q.T.last=0):(h.more gv q).Gd N:=by
 have hz:=Ep hc
 have h1:=hz (El h.l.length v) (by simp)
 have h2:=ZcX (hz (Da v) (by simp))
 have h3:=hz (Jr h) (by simp)
 have hroom:(h.l.length:Int)<h.cap:=by
  unfold Jr at h3
  split at h3
  ·cases h3
  ·omega
 have hk:v.k=7->1<=v.i/\v.i<=(h.l.length:Int):=by
  unfold El at h1
  split at h1
  ·exact Qv h1 v (by simp)
  ·cases h1
 have hlen:(h.more gv q).l.length=h.l.length+1:=by unfold HP.more;simp
 have hat: ∀(j:Nat) (r:OB),(h.more gv q).l[j]? =some r->(j=h.l.length/\r=q)∨(j<h.l.length/\h.l[j]? =some r):=by
  intro j r hj
  have hj':(h.l++ [q])[j]? =some r:=hj
  rcases Nat.lt_or_ge j h.l.length with h4|h4
  ·rw[List.getElem?_append_left h4] at hj'
   exact .inr ⟨h4,hj'⟩
  ·rw[List.getElem?_append_right h4] at hj'
   have h5:=(List.getElem?_eq_some_iff.1 hj').1
   have h6:j - h.l.length=0:=by simpa using h5
   rw[h6] at hj'
   exact .inl ⟨by omega,(by simpa using hj'.symm)⟩
 have hcap:=G.cap
 refine⟨⟨⟨by rw[hlen];omega,G.wf.ok.f0,G.wf.ok.f1,G.wf.ok.e0,G.wf.ok.e1,G.wf.ok.d1⟩,fun j r hj=> ?_⟩, ?_,fun j r hj=> ?_,G.cap,by rw[hlen];show ((h.l.length+1:Nat):Int)<=h.cap;omega⟩
 ·rw[hlen]
  rcases hat j r hj with ⟨-,rfl⟩|⟨-,hj⟩
  ·exact⟨a1,by rw[a2];exact hx,by rw[a2];exact h2,fun h7=>by rw[a2] at h7 ⊢;have:=hk h7;omega,fun e he=>by rw[a4] at he;cases he⟩
  ·have K:=G.wf.ob j r hj
   exact⟨K.c,K.px,K.pk,fun h7=>by have:=K.pi h7;omega,K.ps⟩
 ·obtain⟨rk,hr⟩:=G.ac
  refine⟨fun x=>if x=h.l.length then rk (v.i - 1).toNat+1 else rk x,fun j i r hj hk7 hi=> ?_⟩
  dsimp only
  rcases hat j r hj with ⟨rfl,rfl⟩|⟨hlt,hj⟩
  ·rw[a2] at hk7 hi
   have:=hk hk7
   rw[if_pos rfl,if_neg (by omega),show (v.i - 1).toNat=i by omega]
   exact Nat.lt_succ_self _
  ·have:=(G.wf.ob j r hj).pi hk7
   rw[if_neg (by omega),if_neg (by omega)]
   exact hr j i r hj hk7 hi
 ·rcases hat j r hj with ⟨-,rfl⟩|⟨-,hj⟩
  ·rw[a5];exact Nat.zero_le _
  ·exact G.few j r hj
