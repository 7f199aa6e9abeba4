import Derived.Test.YthcmamjpfigdfaaGreatDoorRl
import Derived.Test.YthcmamjpfigdfaaGreatDoorRm
import Derived.Test.YthcmamjpfigdfaaGreatDoorRn
set_option linter.all false
namespace Go.Proofs.YthcmamjpfigdfaaGreatDoor
set_option maxRecDepth 100000
set_option maxHeartbeats 0
section
open Go Go.Proofs Go.Maps Go.RowKit FM Tryz
theorem Yg (h:HP) (o:Int)  (N:Nat) (w:World) (H:h.Is w) (G:h.Gd N) (hN:N<=90000) (hT:Tabs w):Calls prog 68 #[.pointer (some ⟨h.b,0,none⟩), .int .i64 o] w fun e w'=> ∃(h1:HP) (V:VV) (er:Value),e= .returned (.tuple #[V.agg,er])/\((thE o h.l.length≠0/\er=Ax (thE o h.l.length)/\h1=h)∨(thE o h.l.length=0/\ ∃(j:Nat) (q:OB),o=(j:Int)+1/\h.l[j]? =some q/\((Low h h1/\True)/\Ja h h1 er)))/\h.To h1 w w':=by
 refine Vo h o  w H G.wf.ok.len hT (fun h1 V er=> ∃(j:Nat) (q:OB),o=(j:Int)+1/\h.l[j]? =some q/\((Low h h1/\True)/\Ja h h1 er)) (fun j q X ho hj hc TX=> ?_)
 have HC:=proto_en h j q _ TX.is N G hj
 refine HC.mono ?_
 rintro e Y ⟨h1,V,er,rfl,hP,T9⟩
 exact⟨h1,V,er,rfl,⟨j,q,ho,hj,hP⟩,T9⟩
theorem ZaW (h:HP) (o:Int)  (N:Nat) (w:World) (H:h.Is w) (G:h.Gd N) (hN:N<=90000) (hT:Tabs w):Calls prog 70 #[.pointer (some ⟨h.b,0,none⟩), .int .i64 o] w fun e w'=> ∃(h1:HP) (y:Bool) (er:Value),e= .returned (.tuple #[.bool y,er])/\((thE o h.l.length≠0/\er=Ax (thE o h.l.length)/\h1=h/\y=false)∨(thE o h.l.length=0/\ ∃(j:Nat) (q:OB),o=(j:Int)+1/\h.l[j]? =some q/\((Low h h1/\True)/\Ja h h1 er)))/\h.To h1 w w':=by
 refine Ze h o  w H G.wf.ok.len hT (fun h1 y er=> ∃(j:Nat) (q:OB),o=(j:Int)+1/\h.l[j]? =some q/\((Low h h1/\True)/\Ja h h1 er)) (fun j q X ho hj hc TX=> ?_)
 have HC:=ext_en h j q _ TX.is N G hj
 refine HC.mono ?_
 rintro e Y ⟨h1,y,er,rfl,hP,T9⟩
 exact⟨h1,y,er,rfl,⟨j,q,ho,hj,hP⟩,T9⟩
theorem Rm (h:HP) (o:Int)  (N:Nat) (w:World) (H:h.Is w) (G:h.Gd N) (hN:N<=90000) (hT:Tabs w):Calls prog 71 #[.pointer (some ⟨h.b,0,none⟩), .int .i64 o] w fun e w'=> ∃(h1:HP) (y:Bool) (er:Value),e= .returned (.tuple #[.bool y,er])/\((thE o h.l.length≠0/\er=Ax (thE o h.l.length)/\h1=h/\y=false)∨(thE o h.l.length=0/\ ∃(j:Nat) (q:OB),o=(j:Int)+1/\h.l[j]? =some q/\((((y=false/\Low h h1)∨(y=true/\er= .nilIface/\Low (h.shut j q) h1)))/\Ja h h1 er)))/\h.To h1 w w':=by
 refine Qg h o  w H G.wf.ok.len hT (fun h1 y er=> ∃(j:Nat) (q:OB),o=(j:Int)+1/\h.l[j]? =some q/\((((y=false/\Low h h1)∨(y=true/\er= .nilIface/\Low (h.shut j q) h1)))/\Ja h h1 er)) (fun j q X ho hj hc TX=> ?_)
 have HC:=prev_en h j q _ TX.is N G hj
 refine HC.mono ?_
 rintro e Y ⟨h1,y,er,rfl,hP,T9⟩
 exact⟨h1,y,er,rfl,⟨j,q,ho,hj,hP⟩,T9⟩
theorem Vq (h:HP) (o:Int)  (N:Nat) (w:World) (H:h.Is w) (G:h.Gd N) (hN:N<=90000) (hT:Tabs w):Calls prog 75 #[.pointer (some ⟨h.b,0,none⟩), .int .i64 o] w fun e w'=> ∃(h1:HP) (V:Value) (er:Value),e= .returned (.tuple #[V,er])/\((thE o h.l.length≠0/\er=Ax (thE o h.l.length)/\h1=h/\V= .slice none 0 0)∨(thE o h.l.length=0/\ ∃(j:Nat) (q:OB),o=(j:Int)+1/\h.l[j]? =some q/\((Low h h1/\(∃A n c,V= .slice A n c))/\Ja h h1 er)))/\h.To h1 w w':=by
 refine Um h o  w H G.wf.ok.len hT (fun h1 V er=> ∃(j:Nat) (q:OB),o=(j:Int)+1/\h.l[j]? =some q/\((Low h h1/\(∃A n c,V= .slice A n c))/\Ja h h1 er)) (fun j q X ho hj hc TX=> ?_)
 have HC:=keys_en h j q _ TX.is N G hj hN (TX.tabs H hT)
 refine HC.mono ?_
 rintro e Y ⟨h1,V,er,rfl,hP,T9⟩
 exact⟨h1,V,er,rfl,⟨j,q,ho,hj,hP⟩,T9⟩
theorem Yh (h:HP) (o:Int) (k:KK) (N:Nat) (w:World) (H:h.Is w) (G:h.Gd N) (hN:N<=90000) (hT:Tabs w) (hk:OkK k):Calls prog 72 #[.pointer (some ⟨h.b,0,none⟩), .int .i64 o,k.agg] w fun e w'=> ∃(h1:HP) (V:DD) (y:Bool) (er:Value),e= .returned (.tuple #[V.agg, .bool y,er])/\((orE [thE o h.l.length,Da k]≠0/\er=Ax (orE [thE o h.l.length,Da k])/\h1=h)∨(orE [thE o h.l.length,Da k]=0/\ ∃(j:Nat) (q:OB),o=(j:Int)+1/\h.l[j]? =some q/\((Low h h1)/\Ja h h1 er)))/\h.To h1 w w':=by
 refine Vp h o k w H G.wf.ok.len hT (fun h1 V y er=> ∃(j:Nat) (q:OB),o=(j:Int)+1/\h.l[j]? =some q/\((Low h h1)/\Ja h h1 er)) (fun j q X ho hj hc TX=> ?_)
 have HC:=(Zee h j q k _ TX.is G.wf.ok hj hk).mono (fun e w' hh=>by obtain⟨h1,V,y,er,a,b,c⟩:=hh;exact(⟨h1,V,y,er,a,⟨b.1,b.2.1⟩,c⟩: ∃(h1:HP) (V:DD) (y:Bool) (er:Value),e= .returned (.tuple #[V.agg, .bool y,er])/\((Low h h1)/\Ja h h1 er)/\h.To h1 _ w'))
 refine HC.mono ?_
 rintro e Y ⟨h1,V,y,er,rfl,hP,T9⟩
 exact⟨h1,V,y,er,rfl,⟨j,q,ho,hj,hP⟩,T9⟩
theorem Zbn (h:HP) (o:Int) (k:KK) (N:Nat) (w:World) (H:h.Is w) (G:h.Gd N) (hN:N<=90000) (hT:Tabs w) (hk:OkK k):Calls prog 73 #[.pointer (some ⟨h.b,0,none⟩), .int .i64 o,k.agg] w fun e w'=> ∃(h1:HP) (y:Bool) (er:Value),e= .returned (.tuple #[.bool y,er])/\((orE [thE o h.l.length,Da k]≠0/\er=Ax (orE [thE o h.l.length,Da k])/\h1=h/\y=false)∨(orE [thE o h.l.length,Da k]=0/\ ∃(j:Nat) (q:OB),o=(j:Int)+1/\h.l[j]? =some q/\((Low h h1)/\Ja h h1 er)))/\h.To h1 w w':=by
 refine ZaV h o k w H G.wf.ok.len hT (fun h1 y er=> ∃(j:Nat) (q:OB),o=(j:Int)+1/\h.l[j]? =some q/\((Low h h1)/\Ja h h1 er)) (fun j q X ho hj hc TX=> ?_)
 have HC:=has_en h j q k _ TX.is G.wf hj hk
 refine HC.mono ?_
 rintro e Y ⟨h1,y,er,rfl,hP,T9⟩
 exact⟨h1,y,er,rfl,⟨j,q,ho,hj,hP⟩,T9⟩
theorem doDelete (h:HP) (o:Int) (k:KK) (N:Nat) (w:World) (H:h.Is w) (G:h.Gd N) (hN:N<=90000) (hT:Tabs w) (hk:OkK k):Calls prog 74 #[.pointer (some ⟨h.b,0,none⟩), .int .i64 o,k.agg] w fun e w'=> ∃(h1:HP) (y:Bool) (er:Value),e= .returned (.tuple #[.bool y,er])/\((orE [thE o h.l.length,Da k]≠0/\er=Ax (orE [thE o h.l.length,Da k])/\h1=h/\y=false)∨(orE [thE o h.l.length,Da k]=0/\ ∃(j:Nat) (q:OB),o=(j:Int)+1/\h.l[j]? =some q/\((((y=false/\Low h h1)∨(er= .nilIface/\((y=true/\Low h h1)∨(y=true/\ ∃T':TT,(getD q.T k).c≠1/\Low (h.tab j q T') h1/\T'.last=q.T.last/\pr T'=Un (pr q.T) k)))))/\Ja h h1 er)))/\h.To h1 w w':=by
 refine Zgs h o k w H G.wf.ok.len hT (fun h1 y er=> ∃(j:Nat) (q:OB),o=(j:Int)+1/\h.l[j]? =some q/\((((y=false/\Low h h1)∨(er= .nilIface/\((y=true/\Low h h1)∨(y=true/\ ∃T':TT,(getD q.T k).c≠1/\Low (h.tab j q T') h1/\T'.last=q.T.last/\pr T'=Un (pr q.T) k)))))/\Ja h h1 er)) (fun j q X ho hj hc TX=> ?_)
 have HC:=del_en h j q k _ TX.is N G hj hN hk
 refine HC.mono ?_
 rintro e Y ⟨h1,y,er,rfl,hP,T9⟩
 exact⟨h1,y,er,rfl,⟨j,q,ho,hj,hP⟩,T9⟩
theorem doGet (h:HP) (o:Int) (k:KK) (r:VV) (N:Nat) (w:World) (H:h.Is w) (G:h.Gd N) (hN:N<=90000) (hT:Tabs w) (hk:OkK k):Calls prog 17 #[.pointer (some ⟨h.b,0,none⟩), .int .i64 o,k.agg,r.agg] w fun e w'=> ∃(h1:HP) (V:VV) (er:Value),e= .returned (.tuple #[V.agg,er])/\((orE [thE o h.l.length,Da k,Bm [r],Ay h.l.length [r]]≠0/\er=Ax (orE [thE o h.l.length,Da k,Bm [r],Ay h.l.length [r]])/\h1=h)∨(orE [thE o h.l.length,Da k,Bm [r],Ay h.l.length [r]]=0/\ ∃(j:Nat) (q:OB),o=(j:Int)+1/\h.l[j]? =some q/\((Low h h1)/\Ja h h1 er)))/\h.To h1 w w':=by
 refine dorGet h o k r w H G.wf.ok.len hT (fun h1 V er=> ∃(j:Nat) (q:OB),o=(j:Int)+1/\h.l[j]? =some q/\((Low h h1)/\Ja h h1 er)) (fun j q X ho hj hc TX=> ?_)
 have HC:=get_en h j q k r _ TX.is G.wf hj hk
 refine HC.mono ?_
 rintro e Y ⟨h1,V,er,rfl,hP,T9⟩
 exact⟨h1,V,er,rfl,⟨j,q,ho,hj,hP⟩,T9⟩
theorem Ye (h:HP) (o:Int) (v:VV) (N:Nat) (w:World) (H:h.Is w) (G:h.Gd N) (hN:N<=90000) (hT:Tabs w):Calls prog 69 #[.pointer (some ⟨h.b,0,none⟩), .int .i64 o,v.agg] w fun e w'=> ∃(h1:HP) (y:Bool) (er:Value),e= .returned (.tuple #[.bool y,er])/\((orE [thE o h.l.length,Bm [v],Ay h.l.length [v],Df v]≠0/\er=Ax (orE [thE o h.l.length,Bm [v],Ay h.l.length [v],Df v])/\h1=h/\y=false)∨(orE [thE o h.l.length,Bm [v],Ay h.l.length [v],Df v]=0/\ ∃(j:Nat) (q:OB),o=(j:Int)+1/\h.l[j]? =some q/\((((y=false/\Low h h1)∨(er= .nilIface/\(Low h h1∨(y=true/\Low (h.prot j q v) h1/\q.x=true/\ ∀i:Nat,v.k=7->v.i=(i:Int)+1-> ¬Rch h j i)))))/\Ja h h1 er)))/\h.To h1 w w':=by
 refine Vn h o v w H G.wf.ok.len hT (fun h1 y er=> ∃(j:Nat) (q:OB),o=(j:Int)+1/\h.l[j]? =some q/\((((y=false/\Low h h1)∨(er= .nilIface/\(Low h h1∨(y=true/\Low (h.prot j q v) h1/\q.x=true/\ ∀i:Nat,v.k=7->v.i=(i:Int)+1-> ¬Rch h j i)))))/\Ja h h1 er)) (fun j q X ho hj hc TX=> ?_)
 have hv:=Ua (Ef hc (Ay h.l.length [v]) (by simp)) v (by simp)
 have HC:=setp_en h j q v _ TX.is N G hj hv
 refine HC.mono ?_
 rintro e Y ⟨h1,y,er,rfl,hP,T9⟩
 exact⟨h1,y,er,rfl,⟨j,q,ho,hj,hP⟩,T9⟩
theorem doSet (h:HP) (o:Int) (k:KK) (v:VV) (r:VV) (N:Nat) (w:World) (H:h.Is w) (G:h.Gd N) (hN:N<=90000) (hT:Tabs w) (hk:OkK k) (hvx:v.x<2^64):Calls prog 19 #[.pointer (some ⟨h.b,0,none⟩), .int .i64 o,k.agg,v.agg,r.agg] w fun e w'=> ∃(h1:HP) (y:Bool) (er:Value),e= .returned (.tuple #[.bool y,er])/\((orE [thE o h.l.length,Da k,Bm [v,r],Ay h.l.length [v,r]]≠0/\er=Ax (orE [thE o h.l.length,Da k,Bm [v,r],Ay h.l.length [v,r]])/\h1=h/\y=false)∨(orE [thE o h.l.length,Da k,Bm [v,r],Ay h.l.length [v,r]]=0/\ ∃(j:Nat) (q:OB),o=(j:Int)+1/\h.l[j]? =some q/\((SetP h r k v h1 y er)/\Ja h h1 er)))/\h.To h1 w w':=by
 refine dorSet h o k v r w H G.wf.ok.len hT (fun h1 y er=> ∃(j:Nat) (q:OB),o=(j:Int)+1/\h.l[j]? =some q/\((SetP h r k v h1 y er)/\Ja h h1 er)) (fun j q X ho hj hc TX=> ?_)
 have hg:=Ra (Ef hc (Da k) (by simp))
 have hr:=Ua (Ef hc (Ay h.l.length [v,r]) (by simp)) r (by simp)
 have HC:=set_en h j q k v r _ TX.is G.wf (fun i q hi=>Nat.le_trans (G.few i q hi) hN) hj (TX.tabs H hT) hk hg hvx hr
 refine HC.mono ?_
 rintro e Y ⟨h1,y,er,rfl,hP,T9⟩
 exact⟨h1,y,er,rfl,⟨j,q,ho,hj,hP⟩,T9⟩
theorem Ro (h:HP) (o:Int) (k:KK) (d:DD) (N:Nat) (w:World) (H:h.Is w) (G:h.Gd N) (hN:N<=90000) (hT:Tabs w) (hk:OkK k) (hFd:FD d):Calls prog 16 #[.pointer (some ⟨h.b,0,none⟩), .int .i64 o,k.agg,d.agg] w fun e w'=> ∃(h1:HP) (y:Bool) (er:Value),e= .returned (.tuple #[.bool y,er])/\((orE [thE o h.l.length,Da k,Mt d,Ay h.l.length [d.v,d.g,d.s],Mu [d.g,d.s]]≠0/\er=Ax (orE [thE o h.l.length,Da k,Mt d,Ay h.l.length [d.v,d.g,d.s],Mu [d.g,d.s]])/\h1=h/\y=false)∨(orE [thE o h.l.length,Da k,Mt d,Ay h.l.length [d.v,d.g,d.s],Mu [d.g,d.s]]=0/\ ∃(j:Nat) (q:OB),o=(j:Int)+1/\h.l[j]? =some q/\((DefE h j q k d h1 y er)/\Ja h h1 er)))/\h.To h1 w w':=by
 refine Qh h o k d w H G.wf.ok.len hT hFd (fun h1 y er=> ∃(j:Nat) (q:OB),o=(j:Int)+1/\h.l[j]? =some q/\((DefE h j q k d h1 y er)/\Ja h h1 er)) (fun j q X ho hj hc TX=> ?_)
 have hg:=Ra (Ef hc (Da k) (by simp))
 have HC:=ZeG h j q k d _ TX.is G.wf (fun i q hi=>Nat.le_trans (G.few i q hi) hN) hj (TX.tabs H hT) hk hg hFd
 refine HC.mono ?_
 rintro e Y ⟨h1,y,er,rfl,hP,T9⟩
 exact⟨h1,y,er,rfl,⟨j,q,ho,hj,hP⟩,T9⟩
