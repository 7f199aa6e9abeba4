import Derived.Test.YtfnohipnenkhoaaGreatDoorRg
import Derived.Test.YtfnohipnenkhoaaGreatDoorRh
import Derived.Test.YtfnohipnenkhoaaGreatDoorRi
import Derived.Test.YtfnohipnenkhoaaGreatDoorRj
set_option linter.all false
namespace Go.Proofs.YtfnohipnenkhoaaGreatDoor
set_option maxRecDepth 100000
set_option maxHeartbeats 0
section
open Go Go.Proofs Go.Maps Go.RowKit FM Tryz
theorem Xm (h:HP) (o:Int)  (N:Nat) (w:World) (H:h.Is w) (G:h.Gd N) (hN:N<=90000) (hT:Tabs w):Calls prog 60 #[.pointer (some ⟨h.b,0,none⟩), .int .i64 o] w fun e w'=> ∃(h1:HP) (V:VV) (er:Value),e= .returned (.tuple #[V.agg,er])/\((thE o h.l.length≠0/\er=Bs (thE o h.l.length)/\h1=h)∨(thE o h.l.length=0/\ ∃(j:Nat) (q:OB),o=(j:Int)+1/\h.l[j]? =some q/\((Low h h1/\True)/\Jj h h1 er)))/\h.To h1 w w':=by
 refine Ve h o  w H G.wf.ok.len hT (fun h1 V er=> ∃(j:Nat) (q:OB),o=(j:Int)+1/\h.l[j]? =some q/\((Low h h1/\True)/\Jj h h1 er)) (fun j q X ho hj hc TX=> ?_)
 have HC:=proto_en h j q _ TX.is N G hj
 refine HC.mono ?_
 rintro e Y ⟨h1,V,er,rfl,hP,T9⟩
 exact⟨h1,V,er,rfl,⟨j,q,ho,hj,hP⟩,T9⟩
theorem Zay (h:HP) (o:Int)  (N:Nat) (w:World) (H:h.Is w) (G:h.Gd N) (hN:N<=90000) (hT:Tabs w):Calls prog 62 #[.pointer (some ⟨h.b,0,none⟩), .int .i64 o] w fun e w'=> ∃(h1:HP) (y:Bool) (er:Value),e= .returned (.tuple #[.bool y,er])/\((thE o h.l.length≠0/\er=Bs (thE o h.l.length)/\h1=h/\y=false)∨(thE o h.l.length=0/\ ∃(j:Nat) (q:OB),o=(j:Int)+1/\h.l[j]? =some q/\((Low h h1/\True)/\Jj h h1 er)))/\h.To h1 w w':=by
 refine Yu h o  w H G.wf.ok.len hT (fun h1 y er=> ∃(j:Nat) (q:OB),o=(j:Int)+1/\h.l[j]? =some q/\((Low h h1/\True)/\Jj h h1 er)) (fun j q X ho hj hc TX=> ?_)
 have HC:=ext_en h j q _ TX.is N G hj
 refine HC.mono ?_
 rintro e Y ⟨h1,y,er,rfl,hP,T9⟩
 exact⟨h1,y,er,rfl,⟨j,q,ho,hj,hP⟩,T9⟩
theorem Rd (h:HP) (o:Int)  (N:Nat) (w:World) (H:h.Is w) (G:h.Gd N) (hN:N<=90000) (hT:Tabs w):Calls prog 63 #[.pointer (some ⟨h.b,0,none⟩), .int .i64 o] w fun e w'=> ∃(h1:HP) (y:Bool) (er:Value),e= .returned (.tuple #[.bool y,er])/\((thE o h.l.length≠0/\er=Bs (thE o h.l.length)/\h1=h/\y=false)∨(thE o h.l.length=0/\ ∃(j:Nat) (q:OB),o=(j:Int)+1/\h.l[j]? =some q/\((((y=false/\Low h h1)∨(y=true/\er= .nilIface/\Low (h.shut j q) h1)))/\Jj h h1 er)))/\h.To h1 w w':=by
 refine Qf h o  w H G.wf.ok.len hT (fun h1 y er=> ∃(j:Nat) (q:OB),o=(j:Int)+1/\h.l[j]? =some q/\((((y=false/\Low h h1)∨(y=true/\er= .nilIface/\Low (h.shut j q) h1)))/\Jj h h1 er)) (fun j q X ho hj hc TX=> ?_)
 have HC:=prev_en h j q _ TX.is N G hj
 refine HC.mono ?_
 rintro e Y ⟨h1,y,er,rfl,hP,T9⟩
 exact⟨h1,y,er,rfl,⟨j,q,ho,hj,hP⟩,T9⟩
theorem Vg (h:HP) (o:Int)  (N:Nat) (w:World) (H:h.Is w) (G:h.Gd N) (hN:N<=90000) (hT:Tabs w):Calls prog 67 #[.pointer (some ⟨h.b,0,none⟩), .int .i64 o] w fun e w'=> ∃(h1:HP) (V:Value) (er:Value),e= .returned (.tuple #[V,er])/\((thE o h.l.length≠0/\er=Bs (thE o h.l.length)/\h1=h/\V= .slice none 0 0)∨(thE o h.l.length=0/\ ∃(j:Nat) (q:OB),o=(j:Int)+1/\h.l[j]? =some q/\((Low h h1/\(∃A n c,V= .slice A n c))/\Jj h h1 er)))/\h.To h1 w w':=by
 refine Rz h o  w H G.wf.ok.len hT (fun h1 V er=> ∃(j:Nat) (q:OB),o=(j:Int)+1/\h.l[j]? =some q/\((Low h h1/\(∃A n c,V= .slice A n c))/\Jj h h1 er)) (fun j q X ho hj hc TX=> ?_)
 have HC:=keys_en h j q _ TX.is N G hj hN (TX.tabs H hT)
 refine HC.mono ?_
 rintro e Y ⟨h1,V,er,rfl,hP,T9⟩
 exact⟨h1,V,er,rfl,⟨j,q,ho,hj,hP⟩,T9⟩
theorem Xn (h:HP) (o:Int) (k:KK) (N:Nat) (w:World) (H:h.Is w) (G:h.Gd N) (hN:N<=90000) (hT:Tabs w) (hk:OkK k):Calls prog 64 #[.pointer (some ⟨h.b,0,none⟩), .int .i64 o,k.agg] w fun e w'=> ∃(h1:HP) (V:DD) (y:Bool) (er:Value),e= .returned (.tuple #[V.agg, .bool y,er])/\((orE [thE o h.l.length,Bm k]≠0/\er=Bs (orE [thE o h.l.length,Bm k])/\h1=h)∨(orE [thE o h.l.length,Bm k]=0/\ ∃(j:Nat) (q:OB),o=(j:Int)+1/\h.l[j]? =some q/\((Low h h1)/\Jj h h1 er)))/\h.To h1 w w':=by
 refine Vf h o k w H G.wf.ok.len hT (fun h1 V y er=> ∃(j:Nat) (q:OB),o=(j:Int)+1/\h.l[j]? =some q/\((Low h h1)/\Jj h h1 er)) (fun j q X ho hj hc TX=> ?_)
 have HC:=(Zdh h j q k _ TX.is G.wf.ok hj hk).mono (fun e w' hh=>by obtain⟨h1,V,y,er,a,b,c⟩:=hh;exact(⟨h1,V,y,er,a,⟨b.1,b.2.1⟩,c⟩: ∃(h1:HP) (V:DD) (y:Bool) (er:Value),e= .returned (.tuple #[V.agg, .bool y,er])/\((Low h h1)/\Jj h h1 er)/\h.To h1 _ w'))
 refine HC.mono ?_
 rintro e Y ⟨h1,V,y,er,rfl,hP,T9⟩
 exact⟨h1,V,y,er,rfl,⟨j,q,ho,hj,hP⟩,T9⟩
theorem ZaP (h:HP) (o:Int) (k:KK) (N:Nat) (w:World) (H:h.Is w) (G:h.Gd N) (hN:N<=90000) (hT:Tabs w) (hk:OkK k):Calls prog 65 #[.pointer (some ⟨h.b,0,none⟩), .int .i64 o,k.agg] w fun e w'=> ∃(h1:HP) (y:Bool) (er:Value),e= .returned (.tuple #[.bool y,er])/\((orE [thE o h.l.length,Bm k]≠0/\er=Bs (orE [thE o h.l.length,Bm k])/\h1=h/\y=false)∨(orE [thE o h.l.length,Bm k]=0/\ ∃(j:Nat) (q:OB),o=(j:Int)+1/\h.l[j]? =some q/\((Low h h1)/\Jj h h1 er)))/\h.To h1 w w':=by
 refine Zax h o k w H G.wf.ok.len hT (fun h1 y er=> ∃(j:Nat) (q:OB),o=(j:Int)+1/\h.l[j]? =some q/\((Low h h1)/\Jj h h1 er)) (fun j q X ho hj hc TX=> ?_)
 have HC:=has_en h j q k _ TX.is G.wf hj hk
 refine HC.mono ?_
 rintro e Y ⟨h1,y,er,rfl,hP,T9⟩
 exact⟨h1,y,er,rfl,⟨j,q,ho,hj,hP⟩,T9⟩
theorem doDelete (h:HP) (o:Int) (k:KK) (N:Nat) (w:World) (H:h.Is w) (G:h.Gd N) (hN:N<=90000) (hT:Tabs w) (hk:OkK k):Calls prog 66 #[.pointer (some ⟨h.b,0,none⟩), .int .i64 o,k.agg] w fun e w'=> ∃(h1:HP) (y:Bool) (er:Value),e= .returned (.tuple #[.bool y,er])/\((orE [thE o h.l.length,Bm k]≠0/\er=Bs (orE [thE o h.l.length,Bm k])/\h1=h/\y=false)∨(orE [thE o h.l.length,Bm k]=0/\ ∃(j:Nat) (q:OB),o=(j:Int)+1/\h.l[j]? =some q/\((((y=false/\Low h h1)∨(er= .nilIface/\((y=true/\Low h h1)∨(y=true/\ ∃T':TT,Low (h.tab j q T') h1/\T'.last=q.T.last/\pr T'=Ze6 (pr q.T) k)))))/\Jj h h1 er)))/\h.To h1 w w':=by
 refine Ze5 h o k w H G.wf.ok.len hT (fun h1 y er=> ∃(j:Nat) (q:OB),o=(j:Int)+1/\h.l[j]? =some q/\((((y=false/\Low h h1)∨(er= .nilIface/\((y=true/\Low h h1)∨(y=true/\ ∃T':TT,Low (h.tab j q T') h1/\T'.last=q.T.last/\pr T'=Ze6 (pr q.T) k)))))/\Jj h h1 er)) (fun j q X ho hj hc TX=> ?_)
 have HC:=del_en h j q k _ TX.is N G hj hN hk
 refine HC.mono ?_
 rintro e Y ⟨h1,y,er,rfl,hP,T9⟩
 exact⟨h1,y,er,rfl,⟨j,q,ho,hj,hP⟩,T9⟩
theorem doGet (h:HP) (o:Int) (k:KK) (r:VV) (N:Nat) (w:World) (H:h.Is w) (G:h.Gd N) (hN:N<=90000) (hT:Tabs w) (hk:OkK k):Calls prog 19 #[.pointer (some ⟨h.b,0,none⟩), .int .i64 o,k.agg,r.agg] w fun e w'=> ∃(h1:HP) (V:VV) (er:Value),e= .returned (.tuple #[V.agg,er])/\((orE [thE o h.l.length,Bm k,Bh [r],Ax h.l.length [r]]≠0/\er=Bs (orE [thE o h.l.length,Bm k,Bh [r],Ax h.l.length [r]])/\h1=h)∨(orE [thE o h.l.length,Bm k,Bh [r],Ax h.l.length [r]]=0/\ ∃(j:Nat) (q:OB),o=(j:Int)+1/\h.l[j]? =some q/\((Low h h1)/\Jj h h1 er)))/\h.To h1 w w':=by
 refine dorGet h o k r w H G.wf.ok.len hT (fun h1 V er=> ∃(j:Nat) (q:OB),o=(j:Int)+1/\h.l[j]? =some q/\((Low h h1)/\Jj h h1 er)) (fun j q X ho hj hc TX=> ?_)
 have HC:=get_en h j q k r _ TX.is G.wf hj hk
 refine HC.mono ?_
 rintro e Y ⟨h1,V,er,rfl,hP,T9⟩
 exact⟨h1,V,er,rfl,⟨j,q,ho,hj,hP⟩,T9⟩
theorem Xl (h:HP) (o:Int) (v:VV) (N:Nat) (w:World) (H:h.Is w) (G:h.Gd N) (hN:N<=90000) (hT:Tabs w):Calls prog 61 #[.pointer (some ⟨h.b,0,none⟩), .int .i64 o,v.agg] w fun e w'=> ∃(h1:HP) (y:Bool) (er:Value),e= .returned (.tuple #[.bool y,er])/\((orE [thE o h.l.length,Bh [v],Ax h.l.length [v],De v]≠0/\er=Bs (orE [thE o h.l.length,Bh [v],Ax h.l.length [v],De v])/\h1=h/\y=false)∨(orE [thE o h.l.length,Bh [v],Ax h.l.length [v],De v]=0/\ ∃(j:Nat) (q:OB),o=(j:Int)+1/\h.l[j]? =some q/\((((y=false/\Low h h1)∨(er= .nilIface/\(Low h h1∨(y=true/\Low (h.prot j q v) h1/\q.x=true/\ ∀i:Nat,v.k=7->v.i=(i:Int)+1-> ¬Rch h j i)))))/\Jj h h1 er)))/\h.To h1 w w':=by
 refine Vd h o v w H G.wf.ok.len hT (fun h1 y er=> ∃(j:Nat) (q:OB),o=(j:Int)+1/\h.l[j]? =some q/\((((y=false/\Low h h1)∨(er= .nilIface/\(Low h h1∨(y=true/\Low (h.prot j q v) h1/\q.x=true/\ ∀i:Nat,v.k=7->v.i=(i:Int)+1-> ¬Rch h j i)))))/\Jj h h1 er)) (fun j q X ho hj hc TX=> ?_)
 have hv:=Rk (Et hc (Ax h.l.length [v]) (by simp)) v (by simp)
 have HC:=setp_en h j q v _ TX.is N G hj hv
 refine HC.mono ?_
 rintro e Y ⟨h1,y,er,rfl,hP,T9⟩
 exact⟨h1,y,er,rfl,⟨j,q,ho,hj,hP⟩,T9⟩
theorem doSet (h:HP) (o:Int) (k:KK) (v:VV) (r:VV) (N:Nat) (w:World) (H:h.Is w) (G:h.Gd N) (hN:N<=90000) (hT:Tabs w) (hk:OkK k) (hvx:v.x<2^64):Calls prog 20 #[.pointer (some ⟨h.b,0,none⟩), .int .i64 o,k.agg,v.agg,r.agg] w fun e w'=> ∃(h1:HP) (y:Bool) (er:Value),e= .returned (.tuple #[.bool y,er])/\((orE [thE o h.l.length,Bm k,Bh [v,r],Ax h.l.length [v,r]]≠0/\er=Bs (orE [thE o h.l.length,Bm k,Bh [v,r],Ax h.l.length [v,r]])/\h1=h/\y=false)∨(orE [thE o h.l.length,Bm k,Bh [v,r],Ax h.l.length [v,r]]=0/\ ∃(j:Nat) (q:OB),o=(j:Int)+1/\h.l[j]? =some q/\((SetP h r k v h1 y er)/\Jj h h1 er)))/\h.To h1 w w':=by
 refine dorSet h o k v r w H G.wf.ok.len hT (fun h1 y er=> ∃(j:Nat) (q:OB),o=(j:Int)+1/\h.l[j]? =some q/\((SetP h r k v h1 y er)/\Jj h h1 er)) (fun j q X ho hj hc TX=> ?_)
 have hg:=Vq (Et hc (Bm k) (by simp))
 have hr:=Rk (Et hc (Ax h.l.length [v,r]) (by simp)) r (by simp)
 have HC:=set_en h j q k v r _ TX.is G.wf (fun i q hi=>Nat.le_trans (G.few i q hi) hN) hj (TX.tabs H hT) hk hg hvx hr
 refine HC.mono ?_
 rintro e Y ⟨h1,y,er,rfl,hP,T9⟩
 exact⟨h1,y,er,rfl,⟨j,q,ho,hj,hP⟩,T9⟩
theorem Re (h:HP) (o:Int) (k:KK) (d:DD) (N:Nat) (w:World) (H:h.Is w) (G:h.Gd N) (hN:N<=90000) (hT:Tabs w) (hk:OkK k) (hFd:FD d):Calls prog 18 #[.pointer (some ⟨h.b,0,none⟩), .int .i64 o,k.agg,d.agg] w fun e w'=> ∃(h1:HP) (y:Bool) (er:Value),e= .returned (.tuple #[.bool y,er])/\((orE [thE o h.l.length,Bm k,Gb d,Ax h.l.length [d.v,d.g,d.s],Gj [d.g,d.s]]≠0/\er=Bs (orE [thE o h.l.length,Bm k,Gb d,Ax h.l.length [d.v,d.g,d.s],Gj [d.g,d.s]])/\h1=h/\y=false)∨(orE [thE o h.l.length,Bm k,Gb d,Ax h.l.length [d.v,d.g,d.s],Gj [d.g,d.s]]=0/\ ∃(j:Nat) (q:OB),o=(j:Int)+1/\h.l[j]? =some q/\((DefE h j q k d h1 y er)/\Jj h h1 er)))/\h.To h1 w w':=by
 refine Md h o k d w H G.wf.ok.len hT hFd (fun h1 y er=> ∃(j:Nat) (q:OB),o=(j:Int)+1/\h.l[j]? =some q/\((DefE h j q k d h1 y er)/\Jj h h1 er)) (fun j q X ho hj hc TX=> ?_)
 have hg:=Vq (Et hc (Bm k) (by simp))
 have HC:=ZdD h j q k d _ TX.is G.wf (fun i q hi=>Nat.le_trans (G.few i q hi) hN) hj (TX.tabs H hT) hk hg hFd
 refine HC.mono ?_
 rintro e Y ⟨h1,y,er,rfl,hP,T9⟩
 exact⟨h1,y,er,rfl,⟨j,q,ho,hj,hP⟩,T9⟩
end
section
open Go Go.Proofs Go.Maps Go.RowKit FM Tryz
attribute [local go_sem] Am Al Ar Ah Ao Ai Aw Do Dn Bq Aj Bo
def MakeP (h:HP) (v:VV) (w:World) (e:Ending) (w':World):Prop:=(e= .returned (.tuple #[.int .i64 0,Bs (orE [En h.l.length v,De v,Ju h])])/\orE [En h.l.length v,De v,Ju h]≠0/\h.To h w w')∨(orE [En h.l.length v,De v,Ju h]=0/\ ∃(gv:Value) (q:OB),e= .returned (.tuple #[.int .i64 ((h.l.length:Int)+1), .nilIface])/\q.c=1/\q.p=v/\q.x=true/\pr q.T= []/\q.T.last=0/\h.To (h.more gv q) w w')
theorem ex_b91 {o:Oper} {a:Act} {w:World} (ho:o.op= .build 91 #[]):(execOp a.eval o).run prog w= .ok (.value (.agg #[])) w:=by
 have e:(Instr.build 91 #[]).run prog w= .ok (.agg #[]) w:=by kernel_rfl
 unfold execOp
 simp only[ho]
 simp[e]
theorem ZbD (h:HP) (v:VV) (w:World) (H:h.Is w) (hT:Tabs w) (hl:h.l.length<=65536):Calls prog 17 #[.pointer (some ⟨h.b,0,none⟩),v.agg] w (MakeP h v w):=by
 have SS:=Ab H.start
 rw[Db]
 go_enter func17,ntmps17
 go_wp2_with (first|go_skip|((with_reducible show wpList ..);first|(refine zB 36 (v.cs) (by rfl) rfl rfl rfl SS ?_;clear SS;intro Xa Ba SS;simp only[nn])|(refine zL (v.cs) 36 5 1 rwV szV (by rfl) rfl rfl SS rfl rfl rfl ?_;simp only[nn])|(refine rd rfl (ex_b91 rfl) ?_)))
 have HC:=add_h h v _ ((Aa SS).hp 0 rfl) (hT.fr (Aa SS).fr H.low) hl
 rw[Db] at HC
 refine HC.mono ?_
 have T0:h.To h w _:=HP.To.end H (Aa SS) rfl
 rintro _ Y (⟨rfl,hc,T1⟩|⟨hc,gv,q,rfl,a1,a2,a3,a4,a5,T1⟩)
 ·have HT1:=Ab (T0.trans T1)
  clear T1 T0
  go_wp2
  go_ret2
  exact .inl ⟨rfl,hc,Aa HT1⟩
 ·have HT1:=Ab (T0.trans T1)
  clear T1 T0
  have HA:=Ab (And.intro a1 (And.intro a2 (And.intro a3 (And.intro a4 a5))))
  clear a1 a2 a3 a4 a5
  go_wp2
  go_ret2
  exact .inr ⟨hc,gv,q,rfl,(Aa HA).1,(Aa HA).2.1,(Aa HA).2.2.1,(Aa HA).2.2.2.1,(Aa HA).2.2.2.2,Aa HT1⟩
def HP.fill (h:HP) (n:Int):HP:={h with fuel:=n}
def RefuelP (h:HP) (n:Int) (w:World) (e:Ending) (w':World):Prop:=(n<0/\e= .returned (.int .i64 7)/\h.To h w w')∨(0<=n/\e= .returned (.int .i64 0)/\h.To (h.fill n) w w')
theorem refuel_h (h:HP) (n:Int) (w:World) (H:h.Is w):Calls prog 40 #[.pointer (some ⟨h.b,0,none⟩), .int .i64 n] w (RefuelP h n w):=by
 have SS:=Ab H.start
 by_cases hn:n<0
 ·have d1:decide (n<0)=true:=decide_eq_true hn
  go_enter func40,ntmps40
  go_wp2
  go_ret
  exact .inl ⟨hn,rfl,HP.To.end H (Aa SS) rfl⟩
 ·have d1:decide (n<0)=false:=decide_eq_false hn
  go_enter func40,ntmps40
  go_wp2_with (first|go_skip|((with_reducible show wpList ..);((refine stH (vs:= [.int .i64 n]) (h.fill n) 0 3 (by rfl) rfl rfl rfl rfl (by simp[Value.oneCell']) sz_i (Aa SS) rfl (by simp) rfl rfl rfl (by simp[Bw,hcs,HP.fill]) ?_);intro X1 S1;replace SS:=Ab S1;clear S1;simp only[nn])))
  go_ret
  exact .inr ⟨by omega,rfl,HP.To.end H (Aa SS) rfl⟩
theorem ex_bhp {o:Oper} {a:Act} {w:World} {x1 x2 x3:Operand} (c f d:Int) (ho:o.op= .build 82 #[(1,x1),(2,x2),(3,x3)]) (h1:a.eval x1= .int .i64 c) (h2:a.eval x2= .int .i64 f) (h3:a.eval x3= .int .i64 d):(execOp a.eval o).run prog w= .ok (.value (.agg (hcs ⟨0, .slice none 0 0, [],c,f,d,0⟩).toArray)) w:=by
 have e:(Instr.build 82 #[(1, .int .i64 c),(2, .int .i64 f),(3, .int .i64 d)]).run prog w= .ok (.agg (hcs ⟨0, .slice none 0 0, [],c,f,d,0⟩).toArray) w:=by kernel_rfl
 unfold execOp
 simp only[ho,List.map_toArray,List.map_cons,List.map_nil,h1,h2,h3]
 simp[e]
def Nr (c f d:Int):Bool:=decide (c<0)||(decide (65536<c)||(decide (f<0)||(decide (d<1)||decide (256<d))))
def Jg (b:Nat) (c f d:Int):HP:=⟨b, .slice none 0 0, [],c,f,d,0⟩
theorem new_is {w X:World} {B:Nat} {c f d:Int} (S:Sy w X [] [Aq B (hcs ⟨0, .slice none 0 0, [],c,f,d,0⟩)]) (h6:6<=w.heap.size):(Jg B c f d).Is X:=by
 have hB:=S.hold 0 rfl
 have hlo:w.heap.size<=B:=(S.lo _ (List.mem_cons_self ..) B (List.mem_singleton.2 rfl)).elim (fun h=>by cases h) id
 refine⟨fun o ho=> ?_, ?_,fun b hb=> ?_⟩
 ·rcases List.mem_cons.1 ho with rfl|ho
  ·exact⟨hB,by simp[hcs]⟩
  rcases List.mem_cons.1 ho with rfl|ho
  ·exact⟨rfl, .inl ⟨rfl,rfl⟩⟩
  ·cases ho
 ·simp[HP.things,Jg,Eg,Value.ownBlock]
 ·have:b=B:=by simpa [HP.blocks,HP.things,Jg,Eg,Aq,Value.ownBlock] using hb
  omega
theorem Zdo (B:Nat) (c f d:Int):(Jg B c f d).blocks= [B]:=by simp[HP.blocks,HP.things,Jg,Eg,Aq,Value.ownBlock]
def NewP (c f d:Int) (w:World) (e:Ending) (w':World):Prop:=(Nr c f d=true/\e= .returned (.tuple #[.pointer none, .int .i64 7])/\Below w.heap.size w w')∨(Nr c f d=false/\ ∃B,e= .returned (.tuple #[.pointer (some ⟨B,0,none⟩), .int .i64 0])/\(Jg B c f d).Is w'/\w.heap.size<=B/\Below w.heap.size w w')
theorem new_h (c f d:Int) (w:World) (h6:6<=w.heap.size):Calls prog 7 #[.int .i64 c, .int .i64 f, .int .i64 d] w (NewP c f d w):=by
 have SS:=Ab (Sy.nil w [])
 by_cases h1:c<0
 ·have d1:decide (c<0)=true:=decide_eq_true h1
  go_enter func7,ntmps7
  go_wp2
  go_ret2
  exact .inl ⟨by unfold Nr;simp[*],rfl,(Aa SS).fr.below⟩
 ·have d1:decide (c<0)=false:=decide_eq_false h1
  by_cases h2:65536<c
  ·have d2:decide (65536<c)=true:=decide_eq_true h2
   go_enter func7,ntmps7
   go_wp2
   go_ret2
   exact .inl ⟨by unfold Nr;simp[*],rfl,(Aa SS).fr.below⟩
  ·have d2:decide (65536<c)=false:=decide_eq_false h2
   by_cases h3:f<0
   ·have d3:decide (f<0)=true:=decide_eq_true h3
    go_enter func7,ntmps7
    go_wp2
    go_ret2
    exact .inl ⟨by unfold Nr;simp[*],rfl,(Aa SS).fr.below⟩
   ·have d3:decide (f<0)=false:=decide_eq_false h3
    by_cases h4:d<1
    ·have d4:decide (d<1)=true:=decide_eq_true h4
     go_enter func7,ntmps7
     go_wp2
     go_ret2
     exact .inl ⟨by unfold Nr;simp[*],rfl,(Aa SS).fr.below⟩
    ·have d4:decide (d<1)=false:=decide_eq_false h4
     by_cases h5:256<d
     ·have d5:decide (256<d)=true:=decide_eq_true h5
      go_enter func7,ntmps7
      go_wp2
      go_ret2
      exact .inl ⟨by unfold Nr;simp[*],rfl,(Aa SS).fr.below⟩
     ·have d5:decide (256<d)=false:=decide_eq_false h5
      go_enter func7,ntmps7
      go_wp2_with (first|go_skip|((with_reducible show wpList ..);first|(refine rd rfl (ex_bhp c f d rfl rfl rfl rfl) ?_)|(refine zB 82 (hcs ⟨0, .slice none 0 0, [],c,f,d,0⟩) (by rfl) rfl rfl rfl SS ?_;clear SS;intro Xa Ba SS;simp only[nn])))
      go_ret2
      exact .inr ⟨by unfold Nr;simp[*],Ba,rfl,new_is (Aa SS) h6,((Aa SS).lo _ (List.mem_cons_self ..) Ba (List.mem_singleton.2 rfl)).elim (fun h=>by cases h) id,(Aa SS).fr.below⟩
theorem Zd6 {h:HP} {N:Nat} (G:h.Gd N) {gv:Value} {q:OB} {v:VV} (hc:orE [En h.l.length v,De v,Ju h]=0) (hx:v.x<2^64) (a1:q.c=1) (a2:q.p=v) (a3:q.x=true) (a4:pr q.T= []) (a5:q.T.last=0):(h.more gv q).Gd N:=by
 have hz:=Et hc
 have h1:=hz (En h.l.length v) (by simp)
 have h2:=Zdc (hz (De v) (by simp))
 have h3:=hz (Ju h) (by simp)
 have hroom:(h.l.length:Int)<h.cap:=by
  unfold Ju at h3
  split at h3
  ·cases h3
  ·omega
 have hk:v.k=7->1<=v.i/\v.i<=(h.l.length:Int):=by
  unfold En at h1
  split at h1
  ·exact Rk h1 v (by simp)
  ·cases h1
 have hlen:(h.more gv q).l.length=h.l.length+1:=by unfold HP.more;simp
 have hat: ∀(j:Nat) (r:OB),(h.more gv q).l[j]? =some r->(j=h.l.length/\r=q)∨(j<h.l.length/\h.l[j]? =some r):=by
  intro j r hj
  have hj':(h.l++ [q])[j]? =some r:=hj
  rcases Nat.lt_or_ge j h.l.length with h4|h4
  ·rw[List.getElem?_append_left h4] at hj'
   exact .inr ⟨h4,hj'⟩
  ·rw[List.getElem?_append_right h4] at hj'
   have h5:=(List.getElem?_eq_some_iff.1 hj').1
   have h6:j - h.l.length=0:=by simpa using h5
   rw[h6] at hj'
   exact .inl ⟨by omega,(by simpa using hj'.symm)⟩
 have hcap:=G.cap
 refine⟨⟨⟨by rw[hlen];omega,G.wf.ok.f0,G.wf.ok.f1,G.wf.ok.e0,G.wf.ok.e1,G.wf.ok.d1⟩,fun j r hj=> ?_⟩, ?_,fun j r hj=> ?_,G.cap,by rw[hlen];show ((h.l.length+1:Nat):Int)<=h.cap;omega⟩
 ·rw[hlen]
  rcases hat j r hj with ⟨-,rfl⟩|⟨-,hj⟩
  ·exact⟨a1,by rw[a2];exact hx,by rw[a2];exact h2,fun h7=>by rw[a2] at h7 ⊢;have:=hk h7;omega,fun e he=>by rw[a4] at he;cases he⟩
  ·have K:=G.wf.ob j r hj
   exact⟨K.c,K.px,K.pk,fun h7=>by have:=K.pi h7;omega,K.ps⟩
 ·obtain⟨rk,hr⟩:=G.ac
  refine⟨fun x=>if x=h.l.length then rk (v.i - 1).toNat+1 else rk x,fun j i r hj hk7 hi=> ?_⟩
  dsimp only
  rcases hat j r hj with ⟨rfl,rfl⟩|⟨hlt,hj⟩
  ·rw[a2] at hk7 hi
   have:=hk hk7
   rw[if_pos rfl,if_neg (by omega),show (v.i - 1).toNat=i by omega]
   exact Nat.lt_succ_self _
  ·have:=(G.wf.ob j r hj).pi hk7
   rw[if_neg (by omega),if_neg (by omega)]
   exact hr j i r hj hk7 hi
 ·rcases hat j r hj with ⟨-,rfl⟩|⟨-,hj⟩
  ·rw[a5];exact Nat.zero_le _
  ·exact G.few j r hj
def shC (s:PO) (v:Value):List Value:= [.int .i64 s.c]++s.p.cs++ [.bool s.x,v]
theorem ZdX (s:PO) (A:Option Addr) (n c:Nat): ∀u∈shC s (.slice A n c),u.oneCell'=true:=by simp[shC,VV.cs,Value.oneCell']
def Ph:PO:=⟨0,Av,false, []⟩
theorem ex_bsh {o:Oper} {a:Act} {w:World} {x0 x1 x2 x3:Operand} (s:PO) (v:Value) (A:Option Addr) (n c:Nat) (hv:v= .slice A n c) (ho:o.op= .build 66 #[(0,x0),(1,x1),(2,x2),(3,x3)]) (h0:a.eval x0= .int .i64 s.c) (h1:a.eval x1= .agg s.p.cs.toArray) (h2:a.eval x2= .bool s.x) (h3:a.eval x3=v):(execOp a.eval o).run prog w= .ok (.value (.agg (shC s v).toArray)) w:=by
 subst hv
 have e:(Instr.build 66 #[(0, .int .i64 s.c),(1, .agg s.p.cs.toArray),(2, .bool s.x),(3, .slice A n c)]).run prog w= .ok (.agg (shC s (.slice A n c)).toArray) w:=by kernel_rfl
 unfold execOp
 simp only[ho,List.map_toArray,List.map_cons,List.map_nil,h0,h1,h2,h3]
 simp[e]
theorem Zde (T:TT):(pr T).length=T.live.length:=List.length_map _
theorem Sy.addRow {w X Y:World} {E:List Nat} {L:List Ob} {base e s n:Nat} {v:Value} {xs:List Value} (S:Sy w X E L) (hO:Y.ownsRow X.heap.size e s v n xs) (k:Below X.heap.size X Y) (hb:base<=X.heap.size):Sy w Y E (L++ [Eg base e s v n xs]):=S.add (Qp _ _ _ _ _ _) (Um hO hb) k (fun b hb'=>(World.ownsRow.lt hO b (by simpa [Eg] using hb')).1)
theorem shape_h (h:HP) (j:Nat) (q:OB) (w:World) (H:h.Is w) (hj:h.l[j]? =some q) (hlast:q.T.last<100000):Calls prog 22 #[.pointer (some ⟨q.b,0,none⟩)] w fun e w'=> ∃A c,e= .returned (.agg (shC q.po (.slice A q.po.ps.length c)).toArray)/\w'.ownsRow w.heap.size 69 20 (.slice A q.po.ps.length c) q.po.ps.length (Mk q.po.ps)/\Below w.heap.size w w':=by
 have hlive:q.T.live.length<=800000:=by have:=Vp (H.ob hj).2.1;omega
 have SS:=Ab (Sy.nil w [])
 go_enter func22,ntmps22
 go_wp2_with (first|go_skip|((with_reducible show wpList ..);(refine zA 66 (shC Ph (.slice none 0 0)) (by rfl) rfl SS ?_;clear SS;intro Xa Ba SS;simp only[nn])))
 have hS:Sy w _ [] [Aq Ba (shC Ph (.slice none 0 0))]:=(Aa SS).drew
 clear SS
 have cu: ∀{X:World} {M:List Ob},Sy w X [] ([]++M)->Sy w X [] []:=fun h=>Sy.left h
 refine wp_region_held_drew (P:=prog) (S:=fun X=>Sy w X [] []) (by kernel_rfl) (cu hS) (fun hS0=> ?_)
 refine gp 0 (some 3) (.pointer (some ⟨q.b,0,none⟩)) rfl rfl (cu hS) ?_
 refine gp 1 (some 4) (.pointer (some ⟨q.b,0,none⟩)) rfl rfl (cu hS) ?_
 refine gp 2 (some 5) (.pointer (some ⟨q.b,0,none⟩)) rfl rfl (cu hS) ?_
 refine gq 3 (some 6) (.int .i64 q.c) rfl rfl (fun X hX=>Ad 3 isAgg3 rfl rfl ((H.on hX.fr.below).ob hj).1 rfl) (cu hS) ?_
 refine gp 4 (some 7) (.pointer (some ⟨q.b,0,none⟩)) rfl rfl (cu hS) ?_
 refine gp 5 (some 8) (.pointer (some ⟨q.b,0,none⟩)) rfl rfl (cu hS) ?_
 refine gp 6 (some 9) (.pointer (some ⟨q.b,1,none⟩)) rfl rfl (cu hS) ?_
 refine gq 7 (some 10) (.agg q.p.cs.toArray) rfl rfl (fun X hX=>Af (vs:=q.p.cs) 36 5 rwV szV rfl rfl ((H.on hX.fr.below).ob hj).1 rfl rfl) (cu hS) ?_
 refine gp 8 (some 11) (.pointer (some ⟨q.b,0,none⟩)) rfl rfl (cu hS) ?_
 refine gp 9 (some 12) (.pointer (some ⟨q.b,0,none⟩)) rfl rfl (cu hS) ?_
 refine gp 10 (some 13) (.pointer (some ⟨q.b,6,none⟩)) rfl rfl (cu hS) ?_
 refine gq 11 (some 14) (.bool q.x) rfl rfl (fun X hX=>Ad 4 isAgg4 rfl rfl ((H.on hX.fr.below).ob hj).1 rfl) (cu hS) ?_
 refine gp 12 (some 15) (.pointer (some ⟨q.b,0,none⟩)) rfl rfl (cu hS) ?_
 refine gp 13 (some 16) (.pointer (some ⟨q.b,0,none⟩)) rfl rfl (cu hS) ?_
 refine gp 14 (some 17) (.pointer (some ⟨q.b,7,none⟩)) rfl rfl (cu hS) ?_
 refine gq 15 (some 18) (.pointer (some ⟨q.T.t,0,none⟩)) rfl rfl (fun X hX=>Ad 97 isAgg97 rfl rfl ((H.on hX.fr.below).ob hj).1 rfl) (cu hS) ?_
 refine gr (rs:= [16]) (gc 16 (some 19) rfl rfl (props27 q.T _ ((H.on hS.fr.below).ob hj).2.1 (by omega) hlive) ?_ gn)
 rintro e Y1 ⟨v,rfl,hO1,hY1⟩
 obtain⟨A,c,rfl⟩:=Gy hO1
 have hq1:=Sy.addRow hS hO1 hY1 hS.fr.size
 refine⟨_,rfl,cu hq1, ?_⟩
 refine gq 17 (some 20) (.agg (shC q.po (.slice A q.T.live.length c)).toArray) rfl rfl (fun X hX=>ex_bsh q.po _ A _ c rfl rfl rfl rfl rfl rfl) (cu hq1) ?_
 refine gr (rs:= [18]) (Qc (vs:=shC q.po (.slice A q.T.live.length c)) (new:=shC q.po (.slice A q.T.live.length c)) 18 0 66 rfl rfl (by kernel_rfl) rfl rfl rfl rfl (ZdX _ _ _ _) szS hq1 rfl (by simp[Bw,shC,Ph,VV.cs,KK.cs,DD.cs,OB.cs,hcs,Ak,Av]) (by simp[Bw,shC,Ph,VV.cs,KK.cs,DD.cs,OB.cs,hcs,Ak,Av]) (fun _ hZ=>cu hZ) ?_ gn)
 intro Y2 hq2
 refine wpAnyH_done (by kernel_rfl) ?_ _
 try simp only[nn]
 have SS:=Ab hq2
 go_wp2
 refine Jf rwS szS rfl rfl rfl ((Aa SS).hold 0 rfl) rfl ?_
 refine⟨A,c,by rw[show q.po.ps.length=q.T.live.length from Zde _], ?_,(Aa SS).fr.below⟩
 show World.ownsRow _ _ _ _ (.slice A (pr q.T).length c) (pr q.T).length _
 rw[Zde]
 exact(Aa SS).get 1 rfl
def psO (base:Nat) (l:List PO) (vs:List Value):Ob:=⟨vs.flatMap (fun v=>v.ownBlock.toList),fun X=>vs.length=l.length/\ ∀(j:Nat) (s:PO) (v:Value),l[j]? =some s->vs[j]? =some v->X.ownsRow base 69 20 v s.ps.length (Mk s.ps)⟩
theorem psO_ok (base:Nat) (l:List PO) (vs:List Value):(psO base l vs).Ok:=by
 refine⟨fun h k=>⟨k.1,fun j s v h1 h2=>Zd1 (k.2 j s v h1 h2) (fun g hg=>h g (List.mem_flatMap.2 ⟨v,List.mem_of_getElem? h2,by simp[hg]⟩))⟩,fun k b hb=> ?_⟩
 obtain⟨v,hv,hb⟩:=List.mem_flatMap.1 hb
 obtain⟨j,hj⟩:=List.getElem?_of_mem hv
 have hlt:=(List.getElem?_eq_some_iff.1 hj).1
 have hl2:j<l.length:=by have:=k.1;omega
 exact(World.ownsRow.lt (k.2 j l[j] v (List.getElem?_eq_getElem hl2) hj) b (by simpa using hb)).2
def Uv (l:List PO) (vs:List Value):List Value:=(l.zip vs).flatMap (fun x=>shC x.1 x.2)
theorem Zdu {l:List PO} {vs:List Value} {s:PO} {v:Value} (h:vs.length=l.length):Uv (l++ [s]) (vs++ [v])=Uv l vs++shC s v:=by
 unfold Uv
 rw[List.zip_append h.symm,List.flatMap_append]
 simp
theorem ps_snoc {w X:World} {E:List Nat} {L M:List Ob} {base:Nat} {l:List PO} {vs:List Value} {s:PO} {v:Value} (S:Sy w X E (L++psO base l vs::Eg base 69 20 v s.ps.length (Mk s.ps)::M)):Sy w X E (L++ [psO base (l++ [s]) (vs++ [v])]):=by
 have h1:(psO base l vs).P X:=S.ho _ (List.mem_append_right _ (List.mem_cons_self ..))
 have h2:X.ownsRow base 69 20 v s.ps.length (Mk s.ps):=S.ho (Eg base 69 20 v s.ps.length (Mk s.ps)) (List.mem_append_right _ (List.mem_cons_of_mem _ (List.mem_cons_self ..)))
 refine S.join (psO_ok _ _ _) ⟨by simp[h1.1],fun j s' v' hs hv=> ?_⟩ (fun x hx=> ?_)
 ·rcases Nat.lt_or_ge j l.length with h3|h3
  ·rw[List.getElem?_append_left h3] at hs
   rw[List.getElem?_append_left (by rw[h1.1];exact h3)] at hv
   exact h1.2 j s' v' hs hv
  ·rw[List.getElem?_append_right h3] at hs
   rw[List.getElem?_append_right (by rw[h1.1];exact h3)] at hv
   have h4:=(List.getElem?_eq_some_iff.1 hs).1
   have h5:j - l.length=0:=by simpa using h4
   rw[h5] at hs
   rw[h1.1,h5] at hv
   obtain rfl:s=s':=by simpa using hs
   obtain rfl:v=v':=by simpa using hv
   exact h2
 ·obtain⟨u,hu,hx⟩:=List.mem_flatMap.1 hx
  rcases List.mem_append.1 hu with h3|h3
  ·exact .inl (List.mem_flatMap.2 ⟨u,h3,hx⟩)
  ·rw[List.mem_singleton.1 h3] at hx
   exact .inr hx
theorem infS:(prog.info? 66).map (fun i=>(i.zero,i.size,i.bytes))=some (some (.agg (shC Ph (.slice none 0 0)).toArray),8,88):=by kernel_rfl
theorem ZeD {h:HP} {i:Nat} {q:OB} (hj:h.l[i]? =some q):h.abs.take (i+1)=h.abs.take i++ [q.po]:=by
 obtain⟨hlt,e⟩:=List.getElem?_eq_some_iff.1 (abs_at hj)
 rw[List.take_succ_eq_append_getElem hlt,e]
theorem Zcf (h:HP) (w:World) (H:h.Is w) (hl:h.l.length<=65536) (hF: ∀(j:Nat) (q:OB),h.l[j]? =some q->q.T.last<100000):Calls prog 9 #[.pointer (some ⟨h.b,0,none⟩)] w fun e w'=> ∃A c vs,e= .returned (.slice A h.l.length c)/\Sy w w' [] [Eg w.heap.size 66 8 (.slice A h.l.length c) h.l.length (Uv h.abs vs),psO w.heap.size h.abs vs]:=by
 have SS:=Ab (Sy.nil w [])
 obtain⟨A0,c0,hgv⟩:=H.form
 have HB:Hid (∀X,Below w.heap.size w X->Holds X h.b [.slice A0 h.l.length c0, .int .i64 h.cap, .int .i64 h.fuel, .int .i64 h.depth, .int .i64 h.ent]):=Ab (fun X hX=>by have:=(H.on hX).blk;unfold hcs at this;rw[hgv] at this;exact this)
 go_enter func9,ntmps9
 go_wp2_with fail
 refine(Ng h _ H).mono ?_
 rintro _ Y0 ⟨rfl,hY0⟩
 obtain rfl:=hY0.symm
 go_wp2_with (first|go_skip|((with_reducible show wpList ..);first|((refine mkS (e:=66) (size:=8) (bytes:=88) (z:= .agg (shC Ph (.slice none 0 0)).toArray) w.heap.size h.l.length (by rfl) rfl rfl rfl underlying32 infS (by omega) (by omega) (by omega) (Aa SS) (Aa SS).fr.size ?_);intro X1 B1 hE1 L1 hb1;replace SS:=Ab L1;clear L1 hb1 hE1;simp only[nn])|(refine rd rfl (Ad 80 isAgg80 rfl rfl (Aa HB _ (Aa SS).fr.below) rfl) ?_)|(refine rd rfl (Bi 80 83 underlying80 rfl rfl) ?_)))
 replace SS:=Ab ((Aa SS).add (psO_ok w.heap.size [] []) ⟨rfl,fun j s v h1=>by simp at h1⟩ (Below.refl _ _) (fun b hb=>by simp[psO] at hb))
 go_loopg [3,14] h.l.length (fun gm s3 s14 wr=> ∃(i:Nat) (A1:Option Addr) (c1:Nat) (vs:List Value),s3= .slice A1 i c1/\s14= .int .i64 (i:Nat)/\i<=h.l.length/\h.l.length - i<=gm/\Hid (Sy w wr [] [Eg w.heap.size 66 8 (.slice A1 i c1) i (Uv (h.abs.take i) vs),psO w.heap.size (h.abs.take i) vs]))
 case atStart=>exact⟨0,_,_, [],rfl,rfl,by omega,by omega,SS⟩
 case round=>
  clear SS
  obtain⟨i,A1,c1,vs,rfl,rfl,hil,hgm,SS⟩:=hrel
  by_cases hlt:i<h.l.length
  ·obtain⟨q,hj⟩: ∃q,h.l[i]? =some q:=⟨_,List.getElem?_eq_getElem hlt⟩
   have dlt:decide ((i:Int)<(h.l.length:Int))=true:=decide_eq_true (by omega)
   have hw1:IntKind.i64.wrap ((i:Int)+1)=(i:Int)+1:=by rw[IntKind.wrap_i64];omega
   obtain⟨g,cg,hg2,hcell⟩:=(H.on (Aa SS).fr.below).ptr hj
   rw[hgv] at hg2
   cases hg2
   have HC:Hid (wr.cell? ⟨g,i,none⟩=some (.pointer (some ⟨q.b,0,none⟩))):=Ab hcell
   clear hcell
   have hlen:vs.length=(h.abs.take i).length:=((Aa SS).get 1 rfl).1
   have HLT:=Ab hlt
   skip
   go_wp2_with (first|go_skip|((with_reducible show wpList ..);first|(refine rd rfl (Za3 80 i unOs idOs rfl rfl rfl (Aa HLT)) ?_)|(refine rd rfl (Uz 83 isAgg83 rfl rfl (Aa HC)) ?_)))
   refine(shape_h h i q _ (H.on (Aa SS).fr.below) hj (hF i q hj)).mono ?_
   rintro _ Y2 ⟨A2,c2,rfl,hO2,hb2⟩
   replace SS:=Ab ((Aa SS).addRow hO2 hb2 (base:=w.heap.size) (Aa SS).fr.size)
   clear hO2 hb2
   go_wp2_with (first|go_skip|((with_reducible show wpList ..);first|((refine bsS (e:=66) (size:=8) (bytes:=88) (z:= .agg (shC Ph (.slice none 0 0)).toArray) (cs:=shC q.po (.slice A2 q.po.ps.length c2)) (by rfl) rfl rfl underlying32 infS (by omega) rfl rfl (by omega) (Aa SS) ?_);intro X3 B3 hE3 L3 hb3;replace SS:=Ab L3;clear L3 hb3 hE3;simp only[nn])|((refine apS (e:=66) (size:=8) (bytes:=88) (z:= .agg (shC Ph (.slice none 0 0)).toArray) (k:=i) (xs:=Uv (h.abs.take i) vs) (news:=shC q.po (.slice A2 q.po.ps.length c2)) 0 3 rfl rfl rfl rfl underlying32 infS rfl (by omega) (Aa SS) rfl rfl rfl (ZdX _ _ _ _) (by omega) (by omega) (Aa SS).fr.size ?_);intro A4 c4 X4 S4;replace SS:=Ab S4;clear S4;simp only[nn])))
   have hq:=Aa SS
   have hq2:=Sy.left (L:= [Eg w.heap.size 66 8 (.slice A4 (i+1) c4) (i+1) (Uv (h.abs.take i) vs++shC q.po (.slice A2 q.po.ps.length c2)),psO w.heap.size (h.abs.take i) vs,Eg w.heap.size 69 20 (.slice A2 q.po.ps.length c2) q.po.ps.length (Mk q.po.ps)]) (M:= [_]) hq
   have hq3:=ps_snoc (L:= [Eg w.heap.size 66 8 (.slice A4 (i+1) c4) (i+1) (Uv (h.abs.take i) vs++shC q.po (.slice A2 q.po.ps.length c2))]) (M:= []) hq2
   rw[←Zdu hlen,←ZeD hj] at hq3
   replace SS:=Ab hq3
   clear hq hq2 hq3
   go_roundg (h.l.length - (i+1))
   case measure=>have:=Aa HLT;omega
   case rel=>exact⟨i+1,A4,c4,vs++ [Value.slice A2 q.po.ps.length c2],rfl,by go_num,by have:=Aa HLT;omega,by omega,SS⟩
  ·obtain rfl:i=h.l.length:=by omega
   go_wp2
   go_ret
   refine⟨A1,c1,vs,rfl, ?_⟩
   have:=Aa SS
   rw[show h.abs.take h.l.length=h.abs from List.take_of_length_le (by rw[Ke];exact Nat.le_refl _)] at this
   exact this
