import Derived.Test.YthcmamjpfigdfaaGreatDoorRn
import Derived.Test.YthcmamjpfigdfaaGreatDoorRo
import Derived.Test.YthcmamjpfigdfaaGreatDoorRp
import Derived.Test.YthcmamjpfigdfaaGreatDoorRq
set_option linter.all false
namespace Go.Proofs.YthcmamjpfigdfaaGreatDoor
set_option maxRecDepth 100000
set_option maxHeartbeats 0
section
open Go Go.Proofs Go.Maps Go.RowKit FM Tryz
theorem Yr (h:HP) (o:Int)  (N:Nat) (w:World) (H:h.Is w) (G:h.Gd N) (hN:N<=90000) (hT:Tabs w):Calls prog 68 #[.pointer (some ⟨h.b,0,none⟩), .int .i64 o] w fun e w'=> ∃(h1:HP) (V:VV) (er:Value),e= .returned (.tuple #[V.agg,er])/\((thE o h.l.length≠0/\er=Bl (thE o h.l.length)/\h1=h)∨(thE o h.l.length=0/\ ∃(j:Nat) (q:OB),o=(j:Int)+1/\h.l[j]? =some q/\((Low h h1/\True)/\Gw h h1 er)))/\h.To h1 w w':=by
 refine Vt h o  w H G.wf.ok.len hT (fun h1 V er=> ∃(j:Nat) (q:OB),o=(j:Int)+1/\h.l[j]? =some q/\((Low h h1/\True)/\Gw h h1 er)) (fun j q X ho hj hc TX=> ?_)
 have HC:=proto_en h j q _ TX.is N G hj
 refine HC.mono ?_
 rintro e Y ⟨h1,V,er,rfl,hP,T9⟩
 exact⟨h1,V,er,rfl,⟨j,q,ho,hj,hP⟩,T9⟩
theorem ZaV (h:HP) (o:Int)  (N:Nat) (w:World) (H:h.Is w) (G:h.Gd N) (hN:N<=90000) (hT:Tabs w):Calls prog 70 #[.pointer (some ⟨h.b,0,none⟩), .int .i64 o] w fun e w'=> ∃(h1:HP) (y:Bool) (er:Value),e= .returned (.tuple #[.bool y,er])/\((thE o h.l.length≠0/\er=Bl (thE o h.l.length)/\h1=h/\y=false)∨(thE o h.l.length=0/\ ∃(j:Nat) (q:OB),o=(j:Int)+1/\h.l[j]? =some q/\((Low h h1/\True)/\Gw h h1 er)))/\h.To h1 w w':=by
 refine Zr h o  w H G.wf.ok.len hT (fun h1 y er=> ∃(j:Nat) (q:OB),o=(j:Int)+1/\h.l[j]? =some q/\((Low h h1/\True)/\Gw h h1 er)) (fun j q X ho hj hc TX=> ?_)
 have HC:=ext_en h j q _ TX.is N G hj
 refine HC.mono ?_
 rintro e Y ⟨h1,y,er,rfl,hP,T9⟩
 exact⟨h1,y,er,rfl,⟨j,q,ho,hj,hP⟩,T9⟩
theorem Rb (h:HP) (o:Int)  (N:Nat) (w:World) (H:h.Is w) (G:h.Gd N) (hN:N<=90000) (hT:Tabs w):Calls prog 71 #[.pointer (some ⟨h.b,0,none⟩), .int .i64 o] w fun e w'=> ∃(h1:HP) (y:Bool) (er:Value),e= .returned (.tuple #[.bool y,er])/\((thE o h.l.length≠0/\er=Bl (thE o h.l.length)/\h1=h/\y=false)∨(thE o h.l.length=0/\ ∃(j:Nat) (q:OB),o=(j:Int)+1/\h.l[j]? =some q/\((((y=false/\Low h h1)∨(y=true/\er= .nilIface/\Low (h.shut j q) h1)))/\Gw h h1 er)))/\h.To h1 w w':=by
 refine Pz h o  w H G.wf.ok.len hT (fun h1 y er=> ∃(j:Nat) (q:OB),o=(j:Int)+1/\h.l[j]? =some q/\((((y=false/\Low h h1)∨(y=true/\er= .nilIface/\Low (h.shut j q) h1)))/\Gw h h1 er)) (fun j q X ho hj hc TX=> ?_)
 have HC:=prev_en h j q _ TX.is N G hj
 refine HC.mono ?_
 rintro e Y ⟨h1,y,er,rfl,hP,T9⟩
 exact⟨h1,y,er,rfl,⟨j,q,ho,hj,hP⟩,T9⟩
theorem Vv (h:HP) (o:Int)  (N:Nat) (w:World) (H:h.Is w) (G:h.Gd N) (hN:N<=90000) (hT:Tabs w):Calls prog 75 #[.pointer (some ⟨h.b,0,none⟩), .int .i64 o] w fun e w'=> ∃(h1:HP) (V:Value) (er:Value),e= .returned (.tuple #[V,er])/\((thE o h.l.length≠0/\er=Bl (thE o h.l.length)/\h1=h/\V= .slice none 0 0)∨(thE o h.l.length=0/\ ∃(j:Nat) (q:OB),o=(j:Int)+1/\h.l[j]? =some q/\((Low h h1/\(∃A n c,V= .slice A n c))/\Gw h h1 er)))/\h.To h1 w w':=by
 refine Ud h o  w H G.wf.ok.len hT (fun h1 V er=> ∃(j:Nat) (q:OB),o=(j:Int)+1/\h.l[j]? =some q/\((Low h h1/\(∃A n c,V= .slice A n c))/\Gw h h1 er)) (fun j q X ho hj hc TX=> ?_)
 have HC:=keys_en h j q _ TX.is N G hj hN (TX.tabs H hT)
 refine HC.mono ?_
 rintro e Y ⟨h1,V,er,rfl,hP,T9⟩
 exact⟨h1,V,er,rfl,⟨j,q,ho,hj,hP⟩,T9⟩
theorem Ys (h:HP) (o:Int) (k:KK) (N:Nat) (w:World) (H:h.Is w) (G:h.Gd N) (hN:N<=90000) (hT:Tabs w) (hk:OkK k):Calls prog 72 #[.pointer (some ⟨h.b,0,none⟩), .int .i64 o,k.agg] w fun e w'=> ∃(h1:HP) (V:DD) (y:Bool) (er:Value),e= .returned (.tuple #[V.agg, .bool y,er])/\((orE [thE o h.l.length,Da k]≠0/\er=Bl (orE [thE o h.l.length,Da k])/\h1=h)∨(orE [thE o h.l.length,Da k]=0/\ ∃(j:Nat) (q:OB),o=(j:Int)+1/\h.l[j]? =some q/\((Low h h1)/\Gw h h1 er)))/\h.To h1 w w':=by
 refine Vu h o k w H G.wf.ok.len hT (fun h1 V y er=> ∃(j:Nat) (q:OB),o=(j:Int)+1/\h.l[j]? =some q/\((Low h h1)/\Gw h h1 er)) (fun j q X ho hj hc TX=> ?_)
 have HC:=(Zd4 h j q k _ TX.is G.wf.ok hj hk).mono (fun e w' hh=>by obtain⟨h1,V,y,er,a,b,c⟩:=hh;exact(⟨h1,V,y,er,a,⟨b.1,b.2.1⟩,c⟩: ∃(h1:HP) (V:DD) (y:Bool) (er:Value),e= .returned (.tuple #[V.agg, .bool y,er])/\((Low h h1)/\Gw h h1 er)/\h.To h1 _ w'))
 refine HC.mono ?_
 rintro e Y ⟨h1,V,y,er,rfl,hP,T9⟩
 exact⟨h1,V,y,er,rfl,⟨j,q,ho,hj,hP⟩,T9⟩
theorem Zbe (h:HP) (o:Int) (k:KK) (N:Nat) (w:World) (H:h.Is w) (G:h.Gd N) (hN:N<=90000) (hT:Tabs w) (hk:OkK k):Calls prog 73 #[.pointer (some ⟨h.b,0,none⟩), .int .i64 o,k.agg] w fun e w'=> ∃(h1:HP) (y:Bool) (er:Value),e= .returned (.tuple #[.bool y,er])/\((orE [thE o h.l.length,Da k]≠0/\er=Bl (orE [thE o h.l.length,Da k])/\h1=h/\y=false)∨(orE [thE o h.l.length,Da k]=0/\ ∃(j:Nat) (q:OB),o=(j:Int)+1/\h.l[j]? =some q/\((Low h h1)/\Gw h h1 er)))/\h.To h1 w w':=by
 refine ZaU h o k w H G.wf.ok.len hT (fun h1 y er=> ∃(j:Nat) (q:OB),o=(j:Int)+1/\h.l[j]? =some q/\((Low h h1)/\Gw h h1 er)) (fun j q X ho hj hc TX=> ?_)
 have HC:=has_en h j q k _ TX.is G.wf hj hk
 refine HC.mono ?_
 rintro e Y ⟨h1,y,er,rfl,hP,T9⟩
 exact⟨h1,y,er,rfl,⟨j,q,ho,hj,hP⟩,T9⟩
theorem doDelete (h:HP) (o:Int) (k:KK) (N:Nat) (w:World) (H:h.Is w) (G:h.Gd N) (hN:N<=90000) (hT:Tabs w) (hk:OkK k):Calls prog 74 #[.pointer (some ⟨h.b,0,none⟩), .int .i64 o,k.agg] w fun e w'=> ∃(h1:HP) (y:Bool) (er:Value),e= .returned (.tuple #[.bool y,er])/\((orE [thE o h.l.length,Da k]≠0/\er=Bl (orE [thE o h.l.length,Da k])/\h1=h/\y=false)∨(orE [thE o h.l.length,Da k]=0/\ ∃(j:Nat) (q:OB),o=(j:Int)+1/\h.l[j]? =some q/\((((y=false/\Low h h1)∨(er= .nilIface/\((y=true/\Low h h1)∨(y=true/\ ∃T':TT,(getD q.T k).c≠1/\Low (h.tab j q T') h1/\T'.last=q.T.last/\pr T'=Ue (pr q.T) k)))))/\Gw h h1 er)))/\h.To h1 w w':=by
 refine Zgo h o k w H G.wf.ok.len hT (fun h1 y er=> ∃(j:Nat) (q:OB),o=(j:Int)+1/\h.l[j]? =some q/\((((y=false/\Low h h1)∨(er= .nilIface/\((y=true/\Low h h1)∨(y=true/\ ∃T':TT,(getD q.T k).c≠1/\Low (h.tab j q T') h1/\T'.last=q.T.last/\pr T'=Ue (pr q.T) k)))))/\Gw h h1 er)) (fun j q X ho hj hc TX=> ?_)
 have HC:=del_en h j q k _ TX.is N G hj hN hk
 refine HC.mono ?_
 rintro e Y ⟨h1,y,er,rfl,hP,T9⟩
 exact⟨h1,y,er,rfl,⟨j,q,ho,hj,hP⟩,T9⟩
theorem doGet (h:HP) (o:Int) (k:KK) (r:VV) (N:Nat) (w:World) (H:h.Is w) (G:h.Gd N) (hN:N<=90000) (hT:Tabs w) (hk:OkK k):Calls prog 17 #[.pointer (some ⟨h.b,0,none⟩), .int .i64 o,k.agg,r.agg] w fun e w'=> ∃(h1:HP) (V:VV) (er:Value),e= .returned (.tuple #[V.agg,er])/\((orE [thE o h.l.length,Da k,Bz [r],Bj h.l.length [r]]≠0/\er=Bl (orE [thE o h.l.length,Da k,Bz [r],Bj h.l.length [r]])/\h1=h)∨(orE [thE o h.l.length,Da k,Bz [r],Bj h.l.length [r]]=0/\ ∃(j:Nat) (q:OB),o=(j:Int)+1/\h.l[j]? =some q/\((Low h h1)/\Gw h h1 er)))/\h.To h1 w w':=by
 refine dorGet h o k r w H G.wf.ok.len hT (fun h1 V er=> ∃(j:Nat) (q:OB),o=(j:Int)+1/\h.l[j]? =some q/\((Low h h1)/\Gw h h1 er)) (fun j q X ho hj hc TX=> ?_)
 have HC:=get_en h j q k r _ TX.is G.wf hj hk
 refine HC.mono ?_
 rintro e Y ⟨h1,V,er,rfl,hP,T9⟩
 exact⟨h1,V,er,rfl,⟨j,q,ho,hj,hP⟩,T9⟩
theorem Yq (h:HP) (o:Int) (v:VV) (N:Nat) (w:World) (H:h.Is w) (G:h.Gd N) (hN:N<=90000) (hT:Tabs w):Calls prog 69 #[.pointer (some ⟨h.b,0,none⟩), .int .i64 o,v.agg] w fun e w'=> ∃(h1:HP) (y:Bool) (er:Value),e= .returned (.tuple #[.bool y,er])/\((orE [thE o h.l.length,Bz [v],Bj h.l.length [v],Db v]≠0/\er=Bl (orE [thE o h.l.length,Bz [v],Bj h.l.length [v],Db v])/\h1=h/\y=false)∨(orE [thE o h.l.length,Bz [v],Bj h.l.length [v],Db v]=0/\ ∃(j:Nat) (q:OB),o=(j:Int)+1/\h.l[j]? =some q/\((((y=false/\Low h h1)∨(er= .nilIface/\(Low h h1∨(y=true/\Low (h.prot j q v) h1/\q.x=true/\ ∀i:Nat,v.k=7->v.i=(i:Int)+1-> ¬Rch h j i)))))/\Gw h h1 er)))/\h.To h1 w w':=by
 refine Vs h o v w H G.wf.ok.len hT (fun h1 y er=> ∃(j:Nat) (q:OB),o=(j:Int)+1/\h.l[j]? =some q/\((((y=false/\Low h h1)∨(er= .nilIface/\(Low h h1∨(y=true/\Low (h.prot j q v) h1/\q.x=true/\ ∀i:Nat,v.k=7->v.i=(i:Int)+1-> ¬Rch h j i)))))/\Gw h h1 er)) (fun j q X ho hj hc TX=> ?_)
 have hv:=Rp (Dx hc (Bj h.l.length [v]) (by simp)) v (by simp)
 have HC:=setp_en h j q v _ TX.is N G hj hv
 refine HC.mono ?_
 rintro e Y ⟨h1,y,er,rfl,hP,T9⟩
 exact⟨h1,y,er,rfl,⟨j,q,ho,hj,hP⟩,T9⟩
theorem doSet (h:HP) (o:Int) (k:KK) (v:VV) (r:VV) (N:Nat) (w:World) (H:h.Is w) (G:h.Gd N) (hN:N<=90000) (hT:Tabs w) (hk:OkK k) (hvx:v.x<2^64):Calls prog 19 #[.pointer (some ⟨h.b,0,none⟩), .int .i64 o,k.agg,v.agg,r.agg] w fun e w'=> ∃(h1:HP) (y:Bool) (er:Value),e= .returned (.tuple #[.bool y,er])/\((orE [thE o h.l.length,Da k,Bz [v,r],Bj h.l.length [v,r]]≠0/\er=Bl (orE [thE o h.l.length,Da k,Bz [v,r],Bj h.l.length [v,r]])/\h1=h/\y=false)∨(orE [thE o h.l.length,Da k,Bz [v,r],Bj h.l.length [v,r]]=0/\ ∃(j:Nat) (q:OB),o=(j:Int)+1/\h.l[j]? =some q/\((SetP h r k v h1 y er)/\Gw h h1 er)))/\h.To h1 w w':=by
 refine dorSet h o k v r w H G.wf.ok.len hT (fun h1 y er=> ∃(j:Nat) (q:OB),o=(j:Int)+1/\h.l[j]? =some q/\((SetP h r k v h1 y er)/\Gw h h1 er)) (fun j q X ho hj hc TX=> ?_)
 have hg:=Ns (Dx hc (Da k) (by simp))
 have hr:=Rp (Dx hc (Bj h.l.length [v,r]) (by simp)) r (by simp)
 have HC:=set_en h j q k v r _ TX.is G.wf (fun i q hi=>Nat.le_trans (G.few i q hi) hN) hj (TX.tabs H hT) hk hg hvx hr
 refine HC.mono ?_
 rintro e Y ⟨h1,y,er,rfl,hP,T9⟩
 exact⟨h1,y,er,rfl,⟨j,q,ho,hj,hP⟩,T9⟩
theorem Rc (h:HP) (o:Int) (k:KK) (d:DD) (N:Nat) (w:World) (H:h.Is w) (G:h.Gd N) (hN:N<=90000) (hT:Tabs w) (hk:OkK k) (hFd:FD d):Calls prog 16 #[.pointer (some ⟨h.b,0,none⟩), .int .i64 o,k.agg,d.agg] w fun e w'=> ∃(h1:HP) (y:Bool) (er:Value),e= .returned (.tuple #[.bool y,er])/\((orE [thE o h.l.length,Da k,Jt d,Bj h.l.length [d.v,d.g,d.s],Ml [d.g,d.s]]≠0/\er=Bl (orE [thE o h.l.length,Da k,Jt d,Bj h.l.length [d.v,d.g,d.s],Ml [d.g,d.s]])/\h1=h/\y=false)∨(orE [thE o h.l.length,Da k,Jt d,Bj h.l.length [d.v,d.g,d.s],Ml [d.g,d.s]]=0/\ ∃(j:Nat) (q:OB),o=(j:Int)+1/\h.l[j]? =some q/\((DefE h j q k d h1 y er)/\Gw h h1 er)))/\h.To h1 w w':=by
 refine La h o k d w H G.wf.ok.len hT hFd (fun h1 y er=> ∃(j:Nat) (q:OB),o=(j:Int)+1/\h.l[j]? =some q/\((DefE h j q k d h1 y er)/\Gw h h1 er)) (fun j q X ho hj hc TX=> ?_)
 have hg:=Ns (Dx hc (Da k) (by simp))
 have HC:=Zez h j q k d _ TX.is G.wf (fun i q hi=>Nat.le_trans (G.few i q hi) hN) hj (TX.tabs H hT) hk hg hFd
 refine HC.mono ?_
 rintro e Y ⟨h1,y,er,rfl,hP,T9⟩
 exact⟨h1,y,er,rfl,⟨j,q,ho,hj,hP⟩,T9⟩
end
section
open Go Go.Proofs Go.Maps Go.RowKit FM Tryz
attribute [local go_sem] Am Al Ar Ah Ao Ai Au Dg Df Bh Ak Az
def MakeP (h:HP) (v:VV) (w:World) (e:Ending) (w':World):Prop:=(e= .returned (.tuple #[.int .i64 0,Bl (orE [Di h.l.length v,Db v,Jh h])])/\orE [Di h.l.length v,Db v,Jh h]≠0/\h.To h w w')∨(orE [Di h.l.length v,Db v,Jh h]=0/\ ∃(gv:Value) (q:OB),e= .returned (.tuple #[.int .i64 ((h.l.length:Int)+1), .nilIface])/\q.c=1/\q.p=v/\q.x=true/\pr q.T= []/\q.T.last=0/\h.To (h.more gv q) w w')
theorem ex_b91 {o:Oper} {a:Act} {w:World} (ho:o.op= .build 109 #[]):(execOp a.eval o).run prog w= .ok (.value (.agg #[])) w:=by
 have e:(Instr.build 109 #[]).run prog w= .ok (.agg #[]) w:=by kernel_rfl
 unfold execOp
 simp only[ho]
 simp[e]
theorem Zcd (h:HP) (v:VV) (w:World) (H:h.Is w) (hT:Tabs w) (hl:h.l.length<=65536):Calls prog 15 #[.pointer (some ⟨h.b,0,none⟩),v.agg] w (MakeP h v w):=by
 have SS:=Ab H.start
 rw[Bu]
 go_enter func15,ntmps15
 go_wp2_with (first|go_skip|((with_reducible show wpList ..);first|(refine zB 40 (v.cs) (by rfl) rfl rfl rfl SS ?_;clear SS;intro Xa Ba SS;simp only[nn])|(refine zL (v.cs) 40 5 1 rwV szV (by rfl) rfl rfl SS rfl rfl rfl ?_;simp only[nn])|(refine rd rfl (ex_b91 rfl) ?_)))
 have HC:=add_h h v _ ((Aa SS).hp 0 rfl) (hT.fr (Aa SS).fr H.low) hl
 rw[Bu] at HC
 refine HC.mono ?_
 have T0:h.To h w _:=HP.To.end H (Aa SS) rfl
 rintro _ Y (⟨rfl,hc,T1⟩|⟨hc,gv,q,rfl,a1,a2,a3,a4,a5,T1⟩)
 ·have HT1:=Ab (T0.trans T1)
  clear T1 T0
  go_wp2
  go_ret2
  exact .inl ⟨rfl,hc,Aa HT1⟩
 ·have HT1:=Ab (T0.trans T1)
  clear T1 T0
  have HA:=Ab (And.intro a1 (And.intro a2 (And.intro a3 (And.intro a4 a5))))
  clear a1 a2 a3 a4 a5
  go_wp2
  go_ret2
  exact .inr ⟨hc,gv,q,rfl,(Aa HA).1,(Aa HA).2.1,(Aa HA).2.2.1,(Aa HA).2.2.2.1,(Aa HA).2.2.2.2,Aa HT1⟩
def HP.fill (h:HP) (n:Int):HP:={h with fuel:=n}
def RefuelP (h:HP) (n:Int) (w:World) (e:Ending) (w':World):Prop:=(n<0/\e= .returned (.int .i64 7)/\h.To h w w')∨(0<=n/\e= .returned (.int .i64 0)/\h.To (h.fill n) w w')
theorem refuel_h (h:HP) (n:Int) (w:World) (H:h.Is w):Calls prog 30 #[.pointer (some ⟨h.b,0,none⟩), .int .i64 n] w (RefuelP h n w):=by
 have SS:=Ab H.start
 by_cases hn:n<0
 ·have d1:decide (n<0)=true:=decide_eq_true hn
  go_enter func30,ntmps30
  go_wp2
  go_ret
  exact .inl ⟨hn,rfl,HP.To.end H (Aa SS) rfl⟩
 ·have d1:decide (n<0)=false:=decide_eq_false hn
  go_enter func30,ntmps30
  go_wp2_with (first|go_skip|((with_reducible show wpList ..);first|((refine stH (vs:= [.int .i64 n]) (h.fill n) 0 3 (by rfl) rfl rfl rfl rfl (by simp[Value.oneCell']) sz_i (Aa SS) rfl (by simp) rfl rfl rfl (by simp[Bo,hcs,HP.fill]) ?_);intro X1 S1;replace SS:=Ab S1;clear S1;simp only[nn])))
  go_ret
  exact .inr ⟨by omega,rfl,HP.To.end H (Aa SS) rfl⟩
theorem ex_bhp {o:Oper} {a:Act} {w:World} {x1 x2 x3:Operand} (c f d:Int) (ho:o.op= .build 94 #[(1,x1),(2,x2),(3,x3)]) (h1:a.eval x1= .int .i64 c) (h2:a.eval x2= .int .i64 f) (h3:a.eval x3= .int .i64 d):(execOp a.eval o).run prog w= .ok (.value (.agg (hcs ⟨0, .slice none 0 0, [],c,f,d,0⟩).toArray)) w:=by
 have e:(Instr.build 94 #[(1, .int .i64 c),(2, .int .i64 f),(3, .int .i64 d)]).run prog w= .ok (.agg (hcs ⟨0, .slice none 0 0, [],c,f,d,0⟩).toArray) w:=by kernel_rfl
 unfold execOp
 simp only[ho,List.map_toArray,List.map_cons,List.map_nil,h1,h2,h3]
 simp[e]
def Ng (c f d:Int):Bool:=decide (c<0)||(decide (65536<c)||(decide (f<0)||(decide (d<1)||decide (256<d))))
def Gn (b:Nat) (c f d:Int):HP:=⟨b, .slice none 0 0, [],c,f,d,0⟩
theorem new_is {w X:World} {B:Nat} {c f d:Int} (S:Sy w X [] [Aq B (hcs ⟨0, .slice none 0 0, [],c,f,d,0⟩)]) (h6:6<=w.heap.size):(Gn B c f d).Is X:=by
 have hB:=S.hold 0 rfl
 have hlo:w.heap.size<=B:=(S.lo _ (List.mem_cons_self ..) B (List.mem_singleton.2 rfl)).elim (fun h=>by cases h) id
 refine⟨fun o ho=> ?_, ?_,fun b hb=> ?_⟩
 ·rcases List.mem_cons.1 ho with rfl|ho
  ·exact⟨hB,by simp[hcs]⟩
  rcases List.mem_cons.1 ho with rfl|ho
  ·exact⟨rfl, .inl ⟨rfl,rfl⟩⟩
  ·cases ho
 ·simp[HP.things,Gn,Du,Value.ownBlock]
 ·have:b=B:=by simpa [HP.blocks,HP.things,Gn,Du,Aq,Value.ownBlock] using hb
  omega
theorem Zea (B:Nat) (c f d:Int):(Gn B c f d).blocks= [B]:=by simp[HP.blocks,HP.things,Gn,Du,Aq,Value.ownBlock]
def NewP (c f d:Int) (w:World) (e:Ending) (w':World):Prop:=(Ng c f d=true/\e= .returned (.tuple #[.pointer none, .int .i64 7])/\Below w.heap.size w w')∨(Ng c f d=false/\ ∃B,e= .returned (.tuple #[.pointer (some ⟨B,0,none⟩), .int .i64 0])/\(Gn B c f d).Is w'/\w.heap.size<=B/\Below w.heap.size w w')
theorem new_h (c f d:Int) (w:World) (h6:6<=w.heap.size):Calls prog 10 #[.int .i64 c, .int .i64 f, .int .i64 d] w (NewP c f d w):=by
 have SS:=Ab (Sy.nil w [])
 by_cases h1:c<0
 ·have d1:decide (c<0)=true:=decide_eq_true h1
  go_enter func10,ntmps10
  go_wp2
  go_ret2
  exact .inl ⟨by unfold Ng;simp[*],rfl,(Aa SS).fr.below⟩
 ·have d1:decide (c<0)=false:=decide_eq_false h1
  by_cases h2:65536<c
  ·have d2:decide (65536<c)=true:=decide_eq_true h2
   go_enter func10,ntmps10
   go_wp2
   go_ret2
   exact .inl ⟨by unfold Ng;simp[*],rfl,(Aa SS).fr.below⟩
  ·have d2:decide (65536<c)=false:=decide_eq_false h2
   by_cases h3:f<0
   ·have d3:decide (f<0)=true:=decide_eq_true h3
    go_enter func10,ntmps10
    go_wp2
    go_ret2
    exact .inl ⟨by unfold Ng;simp[*],rfl,(Aa SS).fr.below⟩
   ·have d3:decide (f<0)=false:=decide_eq_false h3
    by_cases h4:d<1
    ·have d4:decide (d<1)=true:=decide_eq_true h4
     go_enter func10,ntmps10
     go_wp2
     go_ret2
     exact .inl ⟨by unfold Ng;simp[*],rfl,(Aa SS).fr.below⟩
    ·have d4:decide (d<1)=false:=decide_eq_false h4
     by_cases h5:256<d
     ·have d5:decide (256<d)=true:=decide_eq_true h5
      go_enter func10,ntmps10
      go_wp2
      go_ret2
      exact .inl ⟨by unfold Ng;simp[*],rfl,(Aa SS).fr.below⟩
     ·have d5:decide (256<d)=false:=decide_eq_false h5
      go_enter func10,ntmps10
      go_wp2_with (first|go_skip|((with_reducible show wpList ..);first|(refine rd rfl (ex_bhp c f d rfl rfl rfl rfl) ?_)|(refine zB 94 (hcs ⟨0, .slice none 0 0, [],c,f,d,0⟩) (by rfl) rfl rfl rfl SS ?_;clear SS;intro Xa Ba SS;simp only[nn])))
      go_ret2
      exact .inr ⟨by unfold Ng;simp[*],Ba,rfl,new_is (Aa SS) h6,((Aa SS).lo _ (List.mem_cons_self ..) Ba (List.mem_singleton.2 rfl)).elim (fun h=>by cases h) id,(Aa SS).fr.below⟩
theorem Zfd {h:HP} {N:Nat} (G:h.Gd N) {gv:Value} {q:OB} {v:VV} (hc:orE [Di h.l.length v,Db v,Jh h]=0) (hx:v.x<2^64) (a1:q.c=1) (a2:q.p=v) (a3:q.x=true) (a4:pr q.T= []) (a5:q.T.last=0):(h.more gv q).Gd N:=by
 have hz:=Dx hc
 have h1:=hz (Di h.l.length v) (by simp)
 have h2:=ZdZ (hz (Db v) (by simp))
 have h3:=hz (Jh h) (by simp)
 have hroom:(h.l.length:Int)<h.cap:=by
  unfold Jh at h3
  split at h3
  ·cases h3
  ·omega
 have hk:v.k=7->1<=v.i/\v.i<=(h.l.length:Int):=by
  unfold Di at h1
  split at h1
  ·exact Rp h1 v (by simp)
  ·cases h1
 have hlen:(h.more gv q).l.length=h.l.length+1:=by unfold HP.more;simp
 have hat: ∀(j:Nat) (r:OB),(h.more gv q).l[j]? =some r->(j=h.l.length/\r=q)∨(j<h.l.length/\h.l[j]? =some r):=by
  intro j r hj
  have hj':(h.l++ [q])[j]? =some r:=hj
  rcases Nat.lt_or_ge j h.l.length with h4|h4
  ·rw[List.getElem?_append_left h4] at hj'
   exact .inr ⟨h4,hj'⟩
  ·rw[List.getElem?_append_right h4] at hj'
   have h5:=(List.getElem?_eq_some_iff.1 hj').1
   have h6:j - h.l.length=0:=by simpa using h5
   rw[h6] at hj'
   exact .inl ⟨by omega,(by simpa using hj'.symm)⟩
 have hcap:=G.cap
 refine⟨⟨⟨by rw[hlen];omega,G.wf.ok.f0,G.wf.ok.f1,G.wf.ok.e0,G.wf.ok.e1,G.wf.ok.d1⟩,fun j r hj=> ?_⟩, ?_,fun j r hj=> ?_,G.cap,by rw[hlen];show ((h.l.length+1:Nat):Int)<=h.cap;omega⟩
 ·rw[hlen]
  rcases hat j r hj with ⟨-,rfl⟩|⟨-,hj⟩
  ·exact⟨a1,by rw[a2];exact hx,by rw[a2];exact h2,fun h7=>by rw[a2] at h7 ⊢;have:=hk h7;omega,fun e he=>by rw[a4] at he;cases he⟩
  ·have K:=G.wf.ob j r hj
   exact⟨K.c,K.px,K.pk,fun h7=>by have:=K.pi h7;omega,K.ps⟩
 ·obtain⟨rk,hr⟩:=G.ac
  refine⟨fun x=>if x=h.l.length then rk (v.i - 1).toNat+1 else rk x,fun j i r hj hk7 hi=> ?_⟩
  dsimp only
  rcases hat j r hj with ⟨rfl,rfl⟩|⟨hlt,hj⟩
  ·rw[a2] at hk7 hi
   have:=hk hk7
   rw[if_pos rfl,if_neg (by omega),show (v.i - 1).toNat=i by omega]
   exact Nat.lt_succ_self _
  ·have:=(G.wf.ob j r hj).pi hk7
   rw[if_neg (by omega),if_neg (by omega)]
   exact hr j i r hj hk7 hi
 ·rcases hat j r hj with ⟨-,rfl⟩|⟨-,hj⟩
  ·rw[a5];exact Nat.zero_le _
  ·exact G.few j r hj
def shC (s:PO) (v:Value):List Value:= [.int .i64 s.c]++s.p.cs++ [.bool s.x,v]
theorem Qk (s:PO) (A:Option Addr) (n c:Nat): ∀u∈shC s (.slice A n c),u.oneCell'=true:=by simp[shC,VV.cs,Value.oneCell']
def Es:PO:=⟨0,Av,false, []⟩
theorem ex_bsh {o:Oper} {a:Act} {w:World} {x0 x1 x2 x3:Operand} (s:PO) (v:Value) (A:Option Addr) (n c:Nat) (hv:v= .slice A n c) (ho:o.op= .build 85 #[(0,x0),(1,x1),(2,x2),(3,x3)]) (h0:a.eval x0= .int .i64 s.c) (h1:a.eval x1= .agg s.p.cs.toArray) (h2:a.eval x2= .bool s.x) (h3:a.eval x3=v):(execOp a.eval o).run prog w= .ok (.value (.agg (shC s v).toArray)) w:=by
 subst hv
 have e:(Instr.build 85 #[(0, .int .i64 s.c),(1, .agg s.p.cs.toArray),(2, .bool s.x),(3, .slice A n c)]).run prog w= .ok (.agg (shC s (.slice A n c)).toArray) w:=by kernel_rfl
 unfold execOp
 simp only[ho,List.map_toArray,List.map_cons,List.map_nil,h0,h1,h2,h3]
 simp[e]
theorem Zd1 (T:TT):(pr T).length=T.live.length:=List.length_map _
theorem Sy.addRow {w X Y:World} {E:List Nat} {L:List Ob} {base e s n:Nat} {v:Value} {xs:List Value} (S:Sy w X E L) (hO:Y.ownsRow X.heap.size e s v n xs) (k:Below X.heap.size X Y) (hb:base<=X.heap.size):Sy w Y E (L++ [Du base e s v n xs]):=S.add (Mr _ _ _ _ _ _) (No hO hb) k (fun b hb'=>(World.ownsRow.lt hO b (by simpa [Du] using hb')).1)
theorem shape_h (h:HP) (j:Nat) (q:OB) (w:World) (H:h.Is w) (hj:h.l[j]? =some q) (hlast:q.T.last<100000):Calls prog 32 #[.pointer (some ⟨q.b,0,none⟩)] w fun e w'=> ∃A c,e= .returned (.agg (shC q.po (.slice A q.po.ps.length c)).toArray)/\w'.ownsRow w.heap.size 80 20 (.slice A q.po.ps.length c) q.po.ps.length (Lo q.po.ps)/\Below w.heap.size w w':=by
 have hlive:q.T.live.length<=800000:=by have:=Yd (H.ob hj).2.1;omega
 have SS:=Ab (Sy.nil w [])
 go_enter func32,ntmps32
 go_wp2_with (first|go_skip|((with_reducible show wpList ..);first|(refine zA 85 (shC Es (.slice none 0 0)) (by rfl) rfl SS ?_;clear SS;intro Xa Ba SS;simp only[nn])))
 have hS:Sy w _ [] [Aq Ba (shC Es (.slice none 0 0))]:=(Aa SS).drew
 clear SS
 have cu: ∀{X:World} {M:List Ob},Sy w X [] ([]++M)->Sy w X [] []:=fun h=>Sy.left h
 refine wp_region_held_drew (P:=prog) (S:=fun X=>Sy w X [] []) (by kernel_rfl) (cu hS) (fun hS0=> ?_)
 refine gp 0 (some 3) (.pointer (some ⟨q.b,0,none⟩)) rfl rfl (cu hS) ?_
 refine gp 1 (some 4) (.pointer (some ⟨q.b,0,none⟩)) rfl rfl (cu hS) ?_
 refine gp 2 (some 5) (.pointer (some ⟨q.b,0,none⟩)) rfl rfl (cu hS) ?_
 refine gq 3 (some 6) (.int .i64 q.c) rfl rfl (fun X hX=>Ad 3 isAgg3 rfl rfl ((H.on hX.fr.below).ob hj).1 rfl) (cu hS) ?_
 refine gp 4 (some 7) (.pointer (some ⟨q.b,0,none⟩)) rfl rfl (cu hS) ?_
 refine gp 5 (some 8) (.pointer (some ⟨q.b,0,none⟩)) rfl rfl (cu hS) ?_
 refine gp 6 (some 9) (.pointer (some ⟨q.b,1,none⟩)) rfl rfl (cu hS) ?_
 refine gq 7 (some 10) (.agg q.p.cs.toArray) rfl rfl (fun X hX=>Af (vs:=q.p.cs) 40 5 rwV szV rfl rfl ((H.on hX.fr.below).ob hj).1 rfl rfl) (cu hS) ?_
 refine gp 8 (some 11) (.pointer (some ⟨q.b,0,none⟩)) rfl rfl (cu hS) ?_
 refine gp 9 (some 12) (.pointer (some ⟨q.b,0,none⟩)) rfl rfl (cu hS) ?_
 refine gp 10 (some 13) (.pointer (some ⟨q.b,6,none⟩)) rfl rfl (cu hS) ?_
 refine gq 11 (some 14) (.bool q.x) rfl rfl (fun X hX=>Ad 4 isAgg4 rfl rfl ((H.on hX.fr.below).ob hj).1 rfl) (cu hS) ?_
 refine gp 12 (some 15) (.pointer (some ⟨q.b,0,none⟩)) rfl rfl (cu hS) ?_
 refine gp 13 (some 16) (.pointer (some ⟨q.b,0,none⟩)) rfl rfl (cu hS) ?_
 refine gp 14 (some 17) (.pointer (some ⟨q.b,7,none⟩)) rfl rfl (cu hS) ?_
 refine gq 15 (some 18) (.pointer (some ⟨q.T.t,0,none⟩)) rfl rfl (fun X hX=>Ad 151 isAgg151 rfl rfl ((H.on hX.fr.below).ob hj).1 rfl) (cu hS) ?_
 refine gr (rs:= [16]) (gc 16 (some 19) rfl rfl (props27 q.T _ ((H.on hS.fr.below).ob hj).2.1 (by omega) hlive) ?_ gn)
 rintro e Y1 ⟨v,rfl,hO1,hY1⟩
 obtain⟨A,c,rfl⟩:=Gl hO1
 have hq1:=Sy.addRow hS hO1 hY1 hS.fr.size
 refine⟨_,rfl,cu hq1, ?_⟩
 refine gq 17 (some 20) (.agg (shC q.po (.slice A q.T.live.length c)).toArray) rfl rfl (fun X hX=>ex_bsh q.po _ A _ c rfl rfl rfl rfl rfl rfl) (cu hq1) ?_
 refine gr (rs:= [18]) (Nh (vs:=shC q.po (.slice A q.T.live.length c)) (new:=shC q.po (.slice A q.T.live.length c)) 18 0 85 rfl rfl (by kernel_rfl) rfl rfl rfl rfl (Qk _ _ _ _) szS hq1 rfl (by simp[Bo,shC,Es,VV.cs,KK.cs,DD.cs,OB.cs,hcs,zeroD,Av]) (by simp[Bo,shC,Es,VV.cs,KK.cs,DD.cs,OB.cs,hcs,zeroD,Av]) (fun _ hZ=>cu hZ) ?_ gn)
 intro Y2 hq2
 refine dn ?_
 try simp only[nn]
 have SS:=Ab hq2
 go_wp2
 refine Kz rwS szS rfl rfl rfl ((Aa SS).hold 0 rfl) rfl ?_
 refine⟨A,c,by rw[show q.po.ps.length=q.T.live.length from Zd1 _], ?_,(Aa SS).fr.below⟩
 show World.ownsRow _ _ _ _ (.slice A (pr q.T).length c) (pr q.T).length _
 rw[Zd1]
 exact(Aa SS).get 1 rfl
def psO (base:Nat) (l:List PO) (vs:List Value):Ob:=⟨vs.flatMap (fun v=>v.ownBlock.toList),fun X=>vs.length=l.length/\ ∀(j:Nat) (s:PO) (v:Value),l[j]? =some s->vs[j]? =some v->X.ownsRow base 80 20 v s.ps.length (Lo s.ps)⟩
theorem Zb4 (base:Nat) (l:List PO) (vs:List Value):(psO base l vs).Ok:=by
 refine⟨fun h k=>⟨k.1,fun j s v h1 h2=>Ze6 (k.2 j s v h1 h2) (fun g hg=>h g (List.mem_flatMap.2 ⟨v,List.mem_of_getElem? h2,by simp[hg]⟩))⟩,fun k b hb=> ?_⟩
 obtain⟨v,hv,hb⟩:=List.mem_flatMap.1 hb
 obtain⟨j,hj⟩:=List.getElem?_of_mem hv
 have hlt:=(List.getElem?_eq_some_iff.1 hj).1
 have hl2:j<l.length:=by have:=k.1;omega
 exact(World.ownsRow.lt (k.2 j l[j] v (List.getElem?_eq_getElem hl2) hj) b (by simpa using hb)).2
def Oz (l:List PO) (vs:List Value):List Value:=(l.zip vs).flatMap (fun x=>shC x.1 x.2)
theorem Zem {l:List PO} {vs:List Value} {s:PO} {v:Value} (h:vs.length=l.length):Oz (l++ [s]) (vs++ [v])=Oz l vs++shC s v:=by
 unfold Oz
 rw[List.zip_append h.symm,List.flatMap_append]
 simp
theorem ps_snoc {w X:World} {E:List Nat} {L M:List Ob} {base:Nat} {l:List PO} {vs:List Value} {s:PO} {v:Value} (S:Sy w X E (L++psO base l vs::Du base 80 20 v s.ps.length (Lo s.ps)::M)):Sy w X E (L++ [psO base (l++ [s]) (vs++ [v])]):=by
 have h1:(psO base l vs).P X:=S.ho _ (List.mem_append_right _ (List.mem_cons_self ..))
 have h2:X.ownsRow base 80 20 v s.ps.length (Lo s.ps):=S.ho (Du base 80 20 v s.ps.length (Lo s.ps)) (List.mem_append_right _ (List.mem_cons_of_mem _ (List.mem_cons_self ..)))
 refine S.join (Zb4 _ _ _) ⟨by simp[h1.1],fun j s' v' hs hv=> ?_⟩ (fun x hx=> ?_)
 ·rcases Nat.lt_or_ge j l.length with h3|h3
  ·rw[List.getElem?_append_left h3] at hs
   rw[List.getElem?_append_left (by rw[h1.1];exact h3)] at hv
   exact h1.2 j s' v' hs hv
  ·rw[List.getElem?_append_right h3] at hs
   rw[List.getElem?_append_right (by rw[h1.1];exact h3)] at hv
   have h4:=(List.getElem?_eq_some_iff.1 hs).1
   have h5:j - l.length=0:=by simpa using h4
   rw[h5] at hs
   rw[h1.1,h5] at hv
   obtain rfl:s=s':=by simpa using hs
   obtain rfl:v=v':=by simpa using hv
   exact h2
 ·obtain⟨u,hu,hx⟩:=List.mem_flatMap.1 hx
  rcases List.mem_append.1 hu with h3|h3
  ·exact .inl (List.mem_flatMap.2 ⟨u,h3,hx⟩)
  ·rw[List.mem_singleton.1 h3] at hx
   exact .inr hx
theorem infS:(prog.info? 85).map (fun i=>(i.zero,i.size,i.bytes))=some (some (.agg (shC Es (.slice none 0 0)).toArray),8,88):=by kernel_rfl
theorem ZfT {h:HP} {i:Nat} {q:OB} (hj:h.l[i]? =some q):h.abs.take (i+1)=h.abs.take i++ [q.po]:=by
 obtain⟨hlt,e⟩:=List.getElem?_eq_some_iff.1 (abs_at hj)
 rw[List.take_succ_eq_append_getElem hlt,e]
theorem ZcW (h:HP) (w:World) (H:h.Is w) (hl:h.l.length<=65536) (hF: ∀(j:Nat) (q:OB),h.l[j]? =some q->q.T.last<100000):Calls prog 13 #[.pointer (some ⟨h.b,0,none⟩)] w fun e w'=> ∃A c vs,e= .returned (.slice A h.l.length c)/\Sy w w' [] [Du w.heap.size 85 8 (.slice A h.l.length c) h.l.length (Oz h.abs vs),psO w.heap.size h.abs vs]:=by
 have SS:=Ab (Sy.nil w [])
 obtain⟨A0,c0,hgv⟩:=H.form
 have HB:Hid (∀X,Below w.heap.size w X->Holds X h.b [.slice A0 h.l.length c0, .int .i64 h.cap, .int .i64 h.fuel, .int .i64 h.depth, .int .i64 h.ent]):=Ab (fun X hX=>by have:=(H.on hX).blk;unfold hcs at this;rw[hgv] at this;exact this)
 go_enter func13,ntmps13
 go_wp2_with fail
 refine(Mc h _ H).mono ?_
 rintro _ Y0 ⟨rfl,hY0⟩
 obtain rfl:=hY0.symm
 go_wp2_with (first|go_skip|((with_reducible show wpList ..);first|((refine mkS (e:=85) (size:=8) (bytes:=88) (z:= .agg (shC Es (.slice none 0 0)).toArray) w.heap.size h.l.length (by rfl) rfl rfl rfl underlying61 infS (by omega) (by omega) (by omega) (Aa SS) (Aa SS).fr.size ?_);intro X1 B1 hE1 L1 hb1;replace SS:=Ab L1;clear L1 hb1 hE1;simp only[nn])|(refine rd rfl (Ad 92 isAgg92 rfl rfl (Aa HB _ (Aa SS).fr.below) rfl) ?_)|(refine rd rfl (Bm 92 97 underlying92 rfl rfl) ?_)))
 replace SS:=Ab ((Aa SS).add (Zb4 w.heap.size [] []) ⟨rfl,fun j s v h1=>by simp at h1⟩ (Below.refl _ _) (fun b hb=>by simp[psO] at hb))
 go_loopg [3,14] h.l.length (fun gm s3 s14 wr=> ∃(i:Nat) (A1:Option Addr) (c1:Nat) (vs:List Value),s3= .slice A1 i c1/\s14= .int .i64 (i:Nat)/\i<=h.l.length/\h.l.length - i<=gm/\Hid (Sy w wr [] [Du w.heap.size 85 8 (.slice A1 i c1) i (Oz (h.abs.take i) vs),psO w.heap.size (h.abs.take i) vs]))
 case atStart=>exact⟨0,_,_, [],rfl,rfl,by omega,by omega,SS⟩
 case round=>
  clear SS
  obtain⟨i,A1,c1,vs,rfl,rfl,hil,hgm,SS⟩:=hrel
  by_cases hlt:i<h.l.length
  ·obtain⟨q,hj⟩: ∃q,h.l[i]? =some q:=⟨_,List.getElem?_eq_getElem hlt⟩
   have dlt:decide ((i:Int)<(h.l.length:Int))=true:=decide_eq_true (by omega)
   have hw1:IntKind.i64.wrap ((i:Int)+1)=(i:Int)+1:=by rw[IntKind.wrap_i64];omega
   obtain⟨g,cg,hg2,hcell⟩:=(H.on (Aa SS).fr.below).ptr hj
   rw[hgv] at hg2
   cases hg2
   have HC:Hid (wr.cell? ⟨g,i,none⟩=some (.pointer (some ⟨q.b,0,none⟩))):=Ab hcell
   clear hcell
   have hlen:vs.length=(h.abs.take i).length:=((Aa SS).get 1 rfl).1
   have HLT:=Ab hlt
   skip
   go_wp2_with (first|go_skip|((with_reducible show wpList ..);first|(refine rd rfl (Zbx 92 i unOs idOs rfl rfl rfl (Aa HLT)) ?_)|(refine rd rfl (Vm 97 isAgg97 rfl rfl (Aa HC)) ?_)))
   refine(shape_h h i q _ (H.on (Aa SS).fr.below) hj (hF i q hj)).mono ?_
   rintro _ Y2 ⟨A2,c2,rfl,hO2,hb2⟩
   replace SS:=Ab ((Aa SS).addRow hO2 hb2 (base:=w.heap.size) (Aa SS).fr.size)
   clear hO2 hb2
   go_wp2_with (first|go_skip|((with_reducible show wpList ..);first|((refine bsS (e:=85) (size:=8) (bytes:=88) (z:= .agg (shC Es (.slice none 0 0)).toArray) (cs:=shC q.po (.slice A2 q.po.ps.length c2)) (by rfl) rfl rfl underlying61 infS (by omega) rfl rfl (by omega) (Aa SS) ?_);intro X3 B3 hE3 L3 hb3;replace SS:=Ab L3;clear L3 hb3 hE3;simp only[nn])|((refine apS (e:=85) (size:=8) (bytes:=88) (z:= .agg (shC Es (.slice none 0 0)).toArray) (k:=i) (xs:=Oz (h.abs.take i) vs) (news:=shC q.po (.slice A2 q.po.ps.length c2)) 0 3 rfl rfl rfl rfl underlying61 infS rfl (by omega) (Aa SS) rfl rfl rfl (Qk _ _ _ _) (by omega) (by omega) (Aa SS).fr.size ?_);intro A4 c4 X4 S4;replace SS:=Ab S4;clear S4;simp only[nn])))
   have hq:=Aa SS
   have hq2:=Sy.left (L:= [Du w.heap.size 85 8 (.slice A4 (i+1) c4) (i+1) (Oz (h.abs.take i) vs++shC q.po (.slice A2 q.po.ps.length c2)),psO w.heap.size (h.abs.take i) vs,Du w.heap.size 80 20 (.slice A2 q.po.ps.length c2) q.po.ps.length (Lo q.po.ps)]) (M:= [_]) hq
   have hq3:=ps_snoc (L:= [Du w.heap.size 85 8 (.slice A4 (i+1) c4) (i+1) (Oz (h.abs.take i) vs++shC q.po (.slice A2 q.po.ps.length c2))]) (M:= []) hq2
   rw[←Zem hlen,←ZfT hj] at hq3
   replace SS:=Ab hq3
   clear hq hq2 hq3
   go_roundg (h.l.length - (i+1))
   case measure=>have:=Aa HLT;omega
   case rel=>exact⟨i+1,A4,c4,vs++ [Value.slice A2 q.po.ps.length c2],rfl,by go_num,by have:=Aa HLT;omega,by omega,SS⟩
  ·obtain rfl:i=h.l.length:=by omega
   go_wp2
   go_ret
   refine⟨A1,c1,vs,rfl, ?_⟩
   have:=Aa SS
   rw[show h.abs.take h.l.length=h.abs from List.take_of_length_le (by rw[Ot];exact Nat.le_refl _)] at this
   exact this
