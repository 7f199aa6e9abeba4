import Derived.Test.YtfnohipnenkhoaaGreatDoorRp
set_option linter.all false
namespace Go.Proofs.YtfnohipnenkhoaaGreatDoor
set_option maxRecDepth 100000
set_option maxHeartbeats 0
section
open Go Go.Proofs Go.Maps Go.RowKit FM Tryz
attribute [local go_sem] Am Al Ar Ah Ao Ai Aw Do Dn Bq Aj Bo
def Dq (k:Int):List Value:= [.int .i64 k, .int .i64 0]++Av.cs
theorem Gf (k:Int): ∀u∈Dq k,u.oneCell'=true:=by simp[Dq,VV.cs,Value.oneCell']
def Bx (er:Value):Int:=match er with| .iface _ (.int _ c)=>c|_=>0
theorem ta_errno (c:Int) (w:World):(Instr.typeAssert (Bs c) 72 28 true).run prog w= .ok (.tuple #[.int .i64 c, .bool true]) w:=by
 simp[Instr.typeAssert,Bs,run_underlying underlying28]
theorem ex_taE {o:Oper} {a:Act} {w:World} {x:Operand} {c:Int} (ho:o.op= .typeAssert x 72 28 true) (hx:a.eval x=Bs c):(execOp a.eval o).run prog w= .ok (.value (.tuple #[.int .i64 c, .bool true])) w:=by
 unfold execOp
 simp only[ho,hx]
 simp[ta_errno]
theorem ex_ifEqN {o:Oper} {a:Act} {w:World} {x:Operand} (ho:o.op= .binOp .eql 72 x (.const .nilIface) 72) (hx:a.eval x= .nilIface):(execOp a.eval o).run prog w= .ok (.value (.bool true)) w:=by
 unfold execOp
 simp only[ho,hx,show a.eval (.const .nilIface)= .nilIface from rfl]
 simp[go_sem,eqGuard]
theorem ex_ifEqE {o:Oper} {a:Act} {w:World} {x y:Operand} {c:Int} (ho:o.op= .binOp .eql 72 x y 72) (hx:a.eval x=Bs c) (hc:a.eval y= .nilIface):(execOp a.eval o).run prog w= .ok (.value (.bool false)) w:=by
 unfold execOp
 simp only[ho,hx,hc,Bs]
 simp[go_sem,eqGuard]
theorem ex_bf0 {o:Oper} {a:Act} {w:World} (ho:o.op= .build 43 #[]):(execOp a.eval o).run prog w= .ok (.value (.agg (Dq 0).toArray)) w:=by
 have e:(Instr.build 43 #[]).run prog w= .ok (.agg (Dq 0).toArray) w:=by kernel_rfl
 unfold execOp
 simp only[ho]
 simp[e]
theorem ex_bf1 {o:Oper} {a:Act} {w:World} {x:Operand} {c:Int} (ho:o.op= .build 43 #[(0,x)]) (hx:a.eval x= .int .i64 c):(execOp a.eval o).run prog w= .ok (.value (.agg (Dq c).toArray)) w:=by
 have e:(Instr.build 43 #[(0, .int .i64 c)]).run prog w= .ok (.agg (Dq c).toArray) w:=by kernel_rfl
 unfold execOp
 simp only[ho,List.map_toArray,List.map_cons,List.map_nil,hx]
 simp[e]
theorem fault_n (w:World):Calls prog 39 #[.nilIface] w fun e w'=>e= .returned (.agg (Dq 0).toArray)/\Below w.heap.size w w':=by
 have SS:=Ab (Sy.nil w [])
 go_enter func39,ntmps39
 go_wp2_with (first|go_skip|((with_reducible show wpList ..);first|(refine zA 43 (Dq 0) (by rfl) rfl SS ?_;clear SS;intro Xa Ba SS;simp only[nn])|(refine rd rfl (ex_ifEqN rfl rfl) ?_)|(refine rd rfl (ex_bf0 rfl) ?_)|((refine stS (vs:=Dq 0) 0 43 (by rfl) rfl rfl rfl rfl (Gf _) szF (Aa SS) rfl (by simp[Bw,Dq,VV.cs]) ?_);intro Xb Lb hfb hsb;replace SS:=Ab Lb;clear Lb hfb hsb;simp only[nn])))
 refine Jf rwF szF rfl rfl rfl ((Aa SS).hold 0 rfl) rfl ?_
 exact⟨rfl,(Aa SS).fr.below⟩
theorem fault_e (c:Int) (w:World):Calls prog 39 #[Bs c] w fun e w'=>e= .returned (.agg (Dq c).toArray)/\Below w.heap.size w w':=by
 have SS:=Ab (Sy.nil w [])
 go_enter func39,ntmps39
 go_wp2_with (first|go_skip|((with_reducible show wpList ..);first|(refine zA 43 (Dq 0) (by rfl) rfl SS ?_;clear SS;intro Xa Ba SS;simp only[nn])|(refine rd rfl (ex_ifEqE rfl rfl rfl) ?_)|(refine rd rfl (ex_taE rfl rfl) ?_)|(refine rd rfl (ex_bf1 rfl rfl) ?_)|((refine stS (vs:=Dq c) 0 43 (by rfl) rfl rfl rfl rfl (Gf _) szF (Aa SS) rfl (by simp[Bw,Dq,VV.cs]) ?_);intro Xb Lb hfb hsb;replace SS:=Ab Lb;clear Lb hfb hsb;simp only[nn])))
 refine Jf rwF szF rfl rfl rfl ((Aa SS).hold 0 rfl) rfl ?_
 exact⟨rfl,(Aa SS).fr.below⟩
theorem Jq (er:Value) (w:World) (h:er= .nilIface∨ ∃k,er=Bs k):Calls prog 39 #[er] w fun e w'=>e= .returned (.agg (Dq (Bx er)).toArray)/\Below w.heap.size w w':=by
 rcases h with rfl|⟨k,rfl⟩
 ·exact fault_n w
 ·exact fault_e k w

theorem Gh (l:List VV) (A1 A2:Option Addr) (c1 c2:Nat) (w:World) (hz:l.length<=4000000) (hx: ∀v∈l,v.x<2^64) (hR1:Gv w A1 l) (hR2:Gv w A2 l):Calls prog 70 #[.slice A1 l.length c1, .slice A2 l.length c2] w fun e w'=>e= .returned (.bool true)/\Below w.heap.size w w':=by
 have SS:=Ab (Sy.nil w [])
 go_enter func70,ntmps70
 go_wp2_with (first|go_skip|((with_reducible show wpList ..);first|(refine rd rfl (Bi 41 36 underlying41 rfl rfl) ?_)|(refine rd rfl (Eh rfl rfl rfl rfl) ?_)))
 go_loopg [5] l.length (fun gm s5 wr=> ∃i:Nat,s5= .int .i64 (i:Nat)/\i<=l.length/\l.length - i<=gm/\Hid (Sy w wr [] []))
 case atStart=>exact⟨0,rfl,by omega,by omega,SS⟩
 case round=>
  clear SS
  obtain⟨i,rfl,hil,hgm,SS⟩:=hrel
  by_cases hlt:i<l.length
  ·obtain⟨v,hs⟩: ∃v,l[i]? =some v:=⟨_,List.getElem?_eq_getElem hlt⟩
   have hvx:=hx v (List.mem_of_getElem? hs)
   obtain⟨b1,o1,rfl,hb1,hr1⟩:=hR1 i v hs
   obtain⟨b2,o2,rfl,hb2,hr2⟩:=hR2 i v hs
   have HR1: ∀X,Sy w X [] []->X.rangeAt b1 (o1+i * 5) v.cs:=fun X hX=>Dj hr1 hb1 hX.fr.below
   have HR2: ∀X,Sy w X [] []->X.rangeAt b2 (o2+i * 5) v.cs:=fun X hX=>Dj hr2 hb2 hX.fr.below
   have dlt:decide ((i:Int)<(l.length:Int))=true:=decide_eq_true (by omega)
   have hw1:IntKind.i64.wrap ((i:Int)+1)=(i:Int)+1:=by rw[IntKind.wrap_i64];omega
   have HC:=fun (w:World)=>Qe v v w
   simp only[Oe,Db] at HC
   go_wp2_with (first|go_skip|((with_reducible show wpList ..);(refine rd rfl (Bi 41 36 underlying41 rfl rfl) ?_)))
   have hS6:Sy w _ [] []:=(Aa SS).drew
   clear SS
   refine wp_region_held_drew (P:=prog) (S:=fun X=>Sy w X [] _) (by kernel_rfl) (hS6) (fun hS0=> ?_)
   refine gp 0 (some 17) (.slice (some ⟨b1,o1,none⟩) l.length c1) rfl rfl (hS6) ?_
   refine gp 1 (some 18) (.int .i64 (i:Nat)) rfl rfl (hS6) ?_
   refine gq 2 (some 19) (.pointer (some ⟨b1,o1+i * 5,none⟩)) rfl rfl (fun X hX=>Az 41 5 i Mf Mi rfl rfl rfl hlt) (hS6) ?_
   refine gq 3 (some 20) (.agg (v.cs).toArray) rfl rfl (fun X hX=>By (vs:=v.cs) 36 5 rwV szV rfl rfl (HR1 _ hX) rfl) (hS6) ?_
   refine gp 4 (some 21) (.slice (some ⟨b2,o2,none⟩) l.length c2) rfl rfl (hS6) ?_
   refine gp 5 (some 22) (.int .i64 (i:Nat)) rfl rfl (hS6) ?_
   refine gq 6 (some 23) (.pointer (some ⟨b2,o2+i * 5,none⟩)) rfl rfl (fun X hX=>Az 41 5 i Mf Mi rfl rfl rfl hlt) (hS6) ?_
   refine gq 7 (some 24) (.agg (v.cs).toArray) rfl rfl (fun X hX=>By (vs:=v.cs) 36 5 rwV szV rfl rfl (HR2 _ hX) rfl) (hS6) ?_
   refine gr (rs:= [8]) (gcB 8 (some 25) rfl rfl hS6 (HC _) id ?_ gn)
   intro Y1 hq1
   refine gp 9 (some 26) (.bool false) rfl rfl (hq1) ?_
   refine wpAnyH_done (by kernel_rfl) ?_ _
   try simp only[nn]
   have SS:=Ab hq1
   go_wp2
   go_roundg (l.length - (i+1))
   case measure=>omega
   case rel=>exact⟨i+1,by go_num,by omega,by omega,SS⟩
  ·obtain rfl:i=l.length:=by omega
   go_wp2_with (first|go_skip|((with_reducible show wpList ..);(refine rd rfl (Bi 41 36 underlying41 rfl rfl) ?_)))
   go_ret
   exact⟨rfl,(Aa SS).fr.below⟩
def RC (c:Int):Prop:=c=0∨c=4∨c=5∨c=8
theorem Pv: ∀{l:List Int},(∀e∈l,RC e)->RC (orE l)
 | [],_=> .inl rfl
 |e::l,h=>by
  unfold orE
  split
  ·exact Pv (fun x hx=>h x (List.mem_cons_of_mem _ hx))
  ·exact h e (List.mem_cons_self ..)
theorem Ps (o:Int) (n:Nat):RC (thE o n):=by unfold thE;split<;>simp[RC]
theorem Zdb (k:KK):RC (Bm k):=by unfold Bm;split<;>simp[RC]
theorem Zr (l:List VV):RC (Bh l):=by unfold Bh;split<;>simp[RC]
theorem Zt (n:Nat) (l:List VV):RC (Ax n l):=by unfold Ax;split<;>simp[RC]
theorem Zs (v:VV):RC (De v):=by unfold De;split<;>simp[RC]
theorem Zu (d:DD):RC (Gb d):=by unfold Gb;split<;>simp[RC]
theorem Zv (l:List VV):RC (Gj l):=by unfold Gj;split<;>simp[RC]
def AskP (h:HP) (N:Nat) (h1:HP) (er:Value):Prop:=h1.Gd (N+1)/\Stp h h1/\((∃c,(c=4∨c=5∨c=8)/\er=Bs c/\h1=h)∨Jj h h1 er)
def SetQ (h:HP) (r:VV) (k:KK) (v:VV) (h1:HP) (y:Bool):Prop:=(y=false/\h1=h)∨(v.good=true/\ ∃er,SetP h r k v h1 y er)
theorem AskP.no {h:HP} {N:Nat} (G:h.Gd N) {c:Int} (h0:c≠0) (hc:RC c):AskP h N h (Bs c):=by
 refine⟨G.mono (Nat.le_succ _),Stp.refl _, .inl ⟨c, ?_,rfl,rfl⟩⟩
 rcases hc with h|h
 ·exact absurd h h0
 ·exact h
theorem AskP.low {h h1:HP} {N:Nat} {er:Value} (G:h.Gd N) (L:Low h h1) (E:Jj h h1 er):AskP h N h1 er:=⟨(Px G L).mono (Nat.le_succ _),L.stp, .inr E⟩
theorem AskP.er {h h1:HP} {N:Nat} {er:Value} (A:AskP h N h1 er):er= .nilIface∨ ∃k,er=Bs k:=by
 rcases A.2.2 with ⟨c, -,h, -⟩|⟨h, -⟩
 ·exact .inr ⟨c,h⟩
 ·rcases h with h|h|h
  ·exact .inl h
  ·exact .inr ⟨_,h⟩
  ·exact .inr ⟨_,h⟩
theorem Zcx {n:Nat} {l:List VV} (h:Ax n l=0): ∀v∈l,v.k=7->1<=v.i/\v.i<=(n:Int):=by
 intro v hv h7
 unfold Ax at h
 split at h
 ·rename_i ha
  have:=List.all_eq_true.1 ha v hv
  simp[Mr,h7,Rm] at this
  exact this
 ·cases h
theorem Zfs {l:List VV} (h:Gj l=0): ∀v∈l,v.k≠7:=by
 intro v hv h7
 unfold Gj at h
 split at h
 ·rename_i ha
  have:=List.all_eq_true.1 ha v hv
  simp[Ye,h7] at this
 ·cases h
theorem Zcj {v:VV} (h:De v=0):v.k=2∨v.k=7:=by
 unfold De at h
 split at h
 ·assumption
 ·cases h
theorem Vk (h:HP) (o:Int)  (N:Nat) (w:World) (H:h.Is w) (G:h.Gd N) (hN:N<=90000) (hT:Tabs w):Calls prog 60 #[.pointer (some ⟨h.b,0,none⟩), .int .i64 o] w fun e w'=> ∃(h1:HP) (V:VV) (er:Value),e= .returned (.tuple #[V.agg,er])/\AskP h N h1 er/\h.To h1 w w':=by
 refine(Xm h o  N w H G hN hT).mono ?_
 rintro _ Y ⟨h1,V,er,rfl,(⟨h0,rfl,rfl⟩|⟨h0,j,q,rfl,hj,hD,hE⟩),T⟩
 ·refine⟨_,_,_,rfl,AskP.no G h0 (Ps _ _),T⟩
 ·exact⟨h1,_,_,rfl,AskP.low G hD.1 hE,T⟩
theorem Yw (h:HP) (o:Int)  (N:Nat) (w:World) (H:h.Is w) (G:h.Gd N) (hN:N<=90000) (hT:Tabs w):Calls prog 62 #[.pointer (some ⟨h.b,0,none⟩), .int .i64 o] w fun e w'=> ∃(h1:HP) (y:Bool) (er:Value),e= .returned (.tuple #[.bool y,er])/\AskP h N h1 er/\h.To h1 w w':=by
 refine(Zay h o  N w H G hN hT).mono ?_
 rintro _ Y ⟨h1,y,er,rfl,(⟨h0,rfl,rfl,rfl⟩|⟨h0,j,q,rfl,hj,hD,hE⟩),T⟩
 ·refine⟨_,_,_,rfl,AskP.no G h0 (Ps _ _),T⟩
 ·exact⟨h1,_,_,rfl,AskP.low G hD.1 hE,T⟩
theorem Qi (h:HP) (o:Int)  (N:Nat) (w:World) (H:h.Is w) (G:h.Gd N) (hN:N<=90000) (hT:Tabs w):Calls prog 63 #[.pointer (some ⟨h.b,0,none⟩), .int .i64 o] w fun e w'=> ∃(h1:HP) (y:Bool) (er:Value),e= .returned (.tuple #[.bool y,er])/\AskP h N h1 er/\h.To h1 w w':=by
 refine(Rd h o  N w H G hN hT).mono ?_
 rintro _ Y ⟨h1,y,er,rfl,(⟨h0,rfl,rfl,rfl⟩|⟨h0,j,q,rfl,hj,hD,hE⟩),T⟩
 ·refine⟨_,_,_,rfl,AskP.no G h0 (Ps _ _),T⟩
 ·rcases hD with ⟨-,L⟩|⟨-, -,L⟩
  ·exact⟨h1,_,_,rfl,AskP.low G L hE,T⟩
  ·exact⟨h1,_,_,rfl,⟨(Px (shut_gd G hj) L).mono (Nat.le_succ _),Stp.trans (h1:=h.shut j q) ⟨List.length_set,rfl,rfl,rfl⟩ L.stp, .inr hE⟩,T⟩
theorem Vl (h:HP) (o:Int) (k:KK) (N:Nat) (w:World) (H:h.Is w) (G:h.Gd N) (hN:N<=90000) (hT:Tabs w) (hk:OkK k):Calls prog 64 #[.pointer (some ⟨h.b,0,none⟩), .int .i64 o,k.agg] w fun e w'=> ∃(h1:HP) (V:DD) (y:Bool) (er:Value),e= .returned (.tuple #[V.agg, .bool y,er])/\AskP h N h1 er/\h.To h1 w w':=by
 refine(Xn h o k N w H G hN hT hk).mono ?_
 rintro _ Y ⟨h1,V,y,er,rfl,(⟨h0,rfl,rfl⟩|⟨h0,j,q,rfl,hj,hD,hE⟩),T⟩
 ·refine⟨_,_,_,_,rfl,AskP.no G h0 (Pv (fun e he=>by simp only[List.mem_cons,List.not_mem_nil,or_false] at he;rcases he with rfl|rfl<;>first|exact Ps _ _|exact Zdb _|exact Zr _|exact Zt _ _|exact Zs _|exact Zu _|exact Zv _)),T⟩
 ·exact⟨h1,_,_,_,rfl,AskP.low G hD hE,T⟩
theorem ZaD (h:HP) (o:Int) (k:KK) (N:Nat) (w:World) (H:h.Is w) (G:h.Gd N) (hN:N<=90000) (hT:Tabs w) (hk:OkK k):Calls prog 65 #[.pointer (some ⟨h.b,0,none⟩), .int .i64 o,k.agg] w fun e w'=> ∃(h1:HP) (y:Bool) (er:Value),e= .returned (.tuple #[.bool y,er])/\AskP h N h1 er/\h.To h1 w w':=by
 refine(ZaP h o k N w H G hN hT hk).mono ?_
 rintro _ Y ⟨h1,y,er,rfl,(⟨h0,rfl,rfl,rfl⟩|⟨h0,j,q,rfl,hj,hD,hE⟩),T⟩
 ·refine⟨_,_,_,rfl,AskP.no G h0 (Pv (fun e he=>by simp only[List.mem_cons,List.not_mem_nil,or_false] at he;rcases he with rfl|rfl<;>first|exact Ps _ _|exact Zdb _|exact Zr _|exact Zt _ _|exact Zs _|exact Zu _|exact Zv _)),T⟩
 ·exact⟨h1,_,_,rfl,AskP.low G hD hE,T⟩
theorem askGet (h:HP) (o:Int) (k:KK) (r:VV) (N:Nat) (w:World) (H:h.Is w) (G:h.Gd N) (hN:N<=90000) (hT:Tabs w) (hk:OkK k):Calls prog 19 #[.pointer (some ⟨h.b,0,none⟩), .int .i64 o,k.agg,r.agg] w fun e w'=> ∃(h1:HP) (V:VV) (er:Value),e= .returned (.tuple #[V.agg,er])/\AskP h N h1 er/\h.To h1 w w':=by
 refine(doGet h o k r N w H G hN hT hk).mono ?_
 rintro _ Y ⟨h1,V,er,rfl,(⟨h0,rfl,rfl⟩|⟨h0,j,q,rfl,hj,hD,hE⟩),T⟩
 ·refine⟨_,_,_,rfl,AskP.no G h0 (Pv (fun e he=>by simp only[List.mem_cons,List.not_mem_nil,or_false] at he;rcases he with rfl|rfl|rfl|rfl<;>first|exact Ps _ _|exact Zdb _|exact Zr _|exact Zt _ _|exact Zs _|exact Zu _|exact Zv _)),T⟩
 ·exact⟨h1,_,_,rfl,AskP.low G hD hE,T⟩
theorem Zfn (h:HP) (o:Int) (k:KK) (N:Nat) (w:World) (H:h.Is w) (G:h.Gd N) (hN:N<=90000) (hT:Tabs w) (hk:OkK k):Calls prog 66 #[.pointer (some ⟨h.b,0,none⟩), .int .i64 o,k.agg] w fun e w'=> ∃(h1:HP) (y:Bool) (er:Value),e= .returned (.tuple #[.bool y,er])/\AskP h N h1 er/\h.To h1 w w':=by
 refine(doDelete h o k N w H G hN hT hk).mono ?_
 rintro _ Y ⟨h1,y,er,rfl,(⟨h0,rfl,rfl,rfl⟩|⟨h0,j,q,rfl,hj,hD,hE⟩),T⟩
 ·refine⟨_,_,_,rfl,AskP.no G h0 (Pv (fun e he=>by simp only[List.mem_cons,List.not_mem_nil,or_false] at he;rcases he with rfl|rfl<;>first|exact Ps _ _|exact Zdb _|exact Zr _|exact Zt _ _|exact Zs _|exact Zu _|exact Zv _)),T⟩
 ·rcases hD with ⟨-,L⟩|⟨-,⟨-,L⟩|⟨-,T',L,hl,hp⟩⟩
  ·exact⟨h1,_,_,rfl,AskP.low G L hE,T⟩
  ·exact⟨h1,_,_,rfl,AskP.low G L hE,T⟩
  ·have h2:(h.tab j q T').Gd (N+1):=Zc2 G hj (fun e he=>by rw[hp] at he;exact(G.wf.ob j q hj).ps e (List.mem_filter.1 he).1) (by have:=G.few j q hj;omega) (Nat.le_succ _)
   exact⟨h1,_,_,rfl,⟨Px h2 L,(Zbl h j q T').trans L.stp, .inr hE⟩,T⟩
theorem Qj (h:HP) (o:Int) (k:KK) (d:DD) (N:Nat) (w:World) (H:h.Is w) (G:h.Gd N) (hN:N<=90000) (hT:Tabs w) (hk:OkK k) (hFd:FD d):Calls prog 18 #[.pointer (some ⟨h.b,0,none⟩), .int .i64 o,k.agg,d.agg] w fun e w'=> ∃(h1:HP) (y:Bool) (er:Value),e= .returned (.tuple #[.bool y,er])/\AskP h N h1 er/\h.To h1 w w':=by
 refine(Re h o k d N w H G hN hT hk hFd).mono ?_
 rintro _ Y ⟨h1,y,er,rfl,(⟨h0,rfl,rfl,rfl⟩|⟨h0,j,q,rfl,hj,hD,hE⟩),T⟩
 ·refine⟨_,_,_,rfl,AskP.no G h0 (Pv (fun e he=>by simp only[List.mem_cons,List.not_mem_nil,or_false] at he;rcases he with rfl|rfl|rfl|rfl|rfl<;>first|exact Ps _ _|exact Zdb _|exact Zr _|exact Zt _ _|exact Zs _|exact Zu _|exact Zv _)),T⟩
 ·have hz:=Et h0
  have ha:=Zfs (hz _ (by simp:Gj [d.g,d.s]∈_))
  have hg:=DefE.gd G hj hFd (ha d.g (by simp)) (ha d.s (by simp)) hD
  exact⟨h1,_,_,rfl,⟨hg.1,hg.2, .inr hE⟩,T⟩
theorem askSet (h:HP) (o:Int) (k:KK) (v:VV) (r:VV) (N:Nat) (w:World) (H:h.Is w) (G:h.Gd N) (hN:N<=90000) (hT:Tabs w) (hk:OkK k) (hvx:v.x<2^64):Calls prog 20 #[.pointer (some ⟨h.b,0,none⟩), .int .i64 o,k.agg,v.agg,r.agg] w fun e w'=> ∃(h1:HP) (y:Bool) (er:Value),e= .returned (.tuple #[.bool y,er])/\AskP h N h1 er/\SetQ h r k v h1 y/\h.To h1 w w':=by
 refine(doSet h o k v r N w H G hN hT hk hvx).mono ?_
 rintro _ Y ⟨h1,y,er,rfl,(⟨h0,rfl,rfl,rfl⟩|⟨h0,j,q,rfl,hj,hD,hE⟩),T⟩
 ·refine⟨_,_,_,rfl,AskP.no G h0 (Pv (fun e he=>by simp only[List.mem_cons,List.not_mem_nil,or_false] at he;rcases he with rfl|rfl|rfl|rfl<;>first|exact Ps _ _|exact Zdb _|exact Zr _|exact Zt _ _|exact Zs _|exact Zu _|exact Zv _)), .inl ⟨rfl,rfl⟩,T⟩
 ·have hg:=SetP.gd G hvx hD
  exact⟨h1,_,_,rfl,⟨hg.1,hg.2, .inr hE⟩, .inr ⟨Zc5 (Et h0 (Bh [v,r]) (by simp)) v (by simp),_,hD⟩,T⟩
theorem Vj (h:HP) (o:Int) (v:VV) (N:Nat) (w:World) (H:h.Is w) (G:h.Gd N) (hN:N<=90000) (hT:Tabs w) (hvx:v.x<2^64):Calls prog 61 #[.pointer (some ⟨h.b,0,none⟩), .int .i64 o,v.agg] w fun e w'=> ∃(h1:HP) (y:Bool) (er:Value),e= .returned (.tuple #[.bool y,er])/\AskP h N h1 er/\h.To h1 w w':=by
 refine(Xl h o v N w H G hN hT).mono ?_
 rintro _ Y ⟨h1,y,er,rfl,(⟨h0,rfl,rfl,rfl⟩|⟨h0,j,q,rfl,hj,hD,hE⟩),T⟩
 ·refine⟨_,_,_,rfl,AskP.no G h0 (Pv (fun e he=>by simp only[List.mem_cons,List.not_mem_nil,or_false] at he;rcases he with rfl|rfl|rfl|rfl<;>first|exact Ps _ _|exact Zdb _|exact Zr _|exact Zt _ _|exact Zs _|exact Zu _|exact Zv _)),T⟩
 ·have hz:=Et h0
  have hkn:=Zcx (hz _ (by simp:Ax h.l.length [v]∈_)) v (by simp)
  have hpk:=Zcj (hz _ (by simp:De v∈_))
  rcases hD with ⟨-,L⟩|⟨-,L|⟨-,L, -,hR⟩⟩
  ·exact⟨h1,_,_,rfl,AskP.low G L hE,T⟩
  ·exact⟨h1,_,_,rfl,AskP.low G L hE,T⟩
  ·exact⟨h1,_,_,rfl,⟨(Px (prot_gd G hj hvx hpk hkn hR) L).mono (Nat.le_succ _),Stp.trans (h1:=h.prot j q v) ⟨List.length_set,rfl,rfl,rfl⟩ L.stp, .inr hE⟩,T⟩
def ReadsG {α:Type} (f:α->List Value) (k:Nat) (X:World) (A:Option Addr) (l:List α):Prop:= ∀(j:Nat) (x:α),l[j]? =some x-> ∃b off,A=some ⟨b,off,none⟩/\b<X.heap.size/\X.rangeAt b (off+j * k) (f x)
theorem Zdt {α:Type} {f:α->List Value} {k:Nat} (hk: ∀x,(f x).length=k) (h0:0<k) {X:World} {b off:Nat} {l:List α} (h: ∀(j:Nat) (x:α),l[j]? =some x->X.rangeAt b (off+j * k) (f x)):X.rangeAt b off (l.flatMap f):=fun j v hv=>by
 have hlt:=(List.getElem?_eq_some_iff.1 hv).1
 rw[Ge f k hk] at hlt
 have hq:j / k<l.length:=Nat.div_lt_of_lt_mul (by rw[Nat.mul_comm];exact hlt)
 have hr:j % k<k:=Nat.mod_lt _ h0
 have e:j / k * k+j % k=j:=by rw[Nat.mul_comm];exact Nat.div_add_mod j k
 have h1:=Qd f k hk l (j / k) (j % k) hq hr
 rw[e,hv] at h1
 have h2:=h (j / k) l[j / k] (List.getElem?_eq_getElem hq) (j % k) v h1.symm
 rw[show off+j=off+j / k * k+j % k by omega]
 exact h2
theorem ReadsG.src {α:Type} {f:α->List Value} {k:Nat} (hk: ∀x,(f x).length=k) (h0:0<k) {X:World} {A:Option Addr} {l:List α} (h:ReadsG f k X A l): ∀ad,A=some ad-> ∀j u,(l.flatMap f)[j]? =some u->X.cell? (ad.add j)=some u:=by
 rintro ad rfl j u hj
 cases l with
 |nil=>cases hj
 |cons x l=>
  obtain⟨b,off,h1, -, -⟩:=h 0 x rfl
  cases h1
  rw[Addr.add_mid]
  exact Zdt hk h0 (fun j x hx=>by
   obtain⟨b2,o2,h2, -,h3⟩:=h j x hx
   cases h2
   exact h3) j u hj
theorem ReadsG.left {α:Type} {f:α->List Value} {k:Nat} {X:World} {A:Option Addr} {l m:List α} (h:ReadsG f k X A (l++m)):ReadsG f k X A l:=fun j x hx=>h j x (by rw[List.getElem?_append_left (List.getElem?_eq_some_iff.1 hx).1];exact hx)
theorem Om {α:Type} {f:α->List Value} {k:Nat} (hk: ∀x,(f x).length=k) {X:World} {base n e:Nat} {A:Option Addr} {c:Nat} {l:List α} (h:X.ownsRow base e k (.slice A n c) n (l.flatMap f)) (hn:l.length=n):ReadsG f k X A l:=fun j x hj=>by
 have hlt:=(List.getElem?_eq_some_iff.1 hj).1
 have he:=(List.getElem?_eq_some_iff.1 hj).2
 obtain⟨g,c',h1,h2,h3,h4⟩:=Zbx hk h hn j hlt
 cases h1
 exact⟨g,0,rfl,h3,by rw[he] at h4;exact h4⟩
section
variable {ops : Array Oper} {rest : List Oper} {Q : Exit → Act → World → Prop} {w w0 : World} {a : Act} {o : Oper} {E : List Nat} {L : List Ob}
theorem emS {t e:TypeId} {size:Nat} (base:Nat) (hw:Region.wanted o (yielded ops a.tmps)=true) (ho:o.op= .buildSlice t 0 #[]) (hr: ∀w,(Instr.buildSlice t 0 #[]).run prog w= .ok (.slice (some ⟨w.heap.size,0,none⟩) 0 0) (w.alloc (Obj.cells #[] e))) (hL:Sy w0 w E L) (hb:base<=w.heap.size)
  (h: ∀X B,Sy w0 X E (L++ [Eg base e size (.slice (some ⟨B,0,none⟩) 0 0) 0 []])->wpList prog ops Q rest (a.put o.dst (.slice (some ⟨B,0,none⟩) 0 0)) X):wpList prog ops Q (o::rest) a w:=by
 refine BigFrame.wpList_want hw fun K hK=> ?_
 have hown:(w.alloc (Obj.cells #[] e)).ownsRow w.heap.size e size (.slice (some ⟨w.heap.size,0,none⟩) 0 0) 0 []:=⟨by simp, .inr ⟨w.heap.size,0, #[],rfl,Nat.le_refl _,(MapKept.heap_alloc w _).1,Nat.le_refl _,Nat.zero_le _,by simp,by simp⟩⟩
 have hP:=hK _ _ (h (w.alloc (Obj.cells #[] e)) w.heap.size (Sy.addRow hL hown ((Below.refl _ _).alloc (Nat.le_refl _) _) hb))
 have he:(execOp a.eval o).run prog w= .ok (.value (.slice (some ⟨w.heap.size,0,none⟩) 0 0)) (w.alloc (Obj.cells #[] e)):=by
  unfold execOp
  simp only[ho,List.map_toArray,List.map_nil]
  simp[hr w]
 unfold Oper.wp
 rw[he]
 exact hP
theorem apA {t e:TypeId} {size bytes k m c base:Nat} {z v:Value} {xs news:List Value} {A:Option Addr} {s x:Operand} (i:Nat) (hw:Region.wanted o (yielded ops a.tmps)=true) (ho:o.op= .call {callee:= .builtin .append,args:= #[s,x],argTypes:= #[t,t]}) (hs:a.eval s=v) (hx:a.eval x= .slice A m c)
  (ht:prog.underlying t=some (.slice e)) (hi:(prog.info? e).map (fun i=>(i.zero,i.size,i.bytes))=some (some z,size,bytes)) (hz:z.cells.size=size) (hsz:0<size) (hL:Sy w0 w E L) (hi1:L[i]? =some (Eg base e size v k xs)) (hA:A=none->m=0/\c=0) (hl:news.length=m * size)
  (hnews: ∀ad,A=some ad-> ∀j u,news[j]? =some u->w.cell? (ad.add j)=some u) (h1: ∀u∈news,u.oneCell'=true)
  (hn:k+m<=4000000) (hby:bytes<=10000) (hbase:base<=w.heap.size)
  (h: ∀A c X,Sy w0 X E (L.set i (Eg base e size (.slice A (k+m) c) (k+m) (xs++news)))->wpList prog ops Q rest (a.put o.dst (.slice A (k+m) c)) X):wpList prog ops Q (o::rest) a w:=by
 obtain⟨i0,hi,hz0,hz1,hz2⟩:=info_parts hi
 have hown:w.ownsRow base e size v k xs:=hL.get i hi1
 refine BigFrame.wpList_want hw fun K hK=> ?_
 cases A with
 |none=>
  obtain⟨rfl,rfl⟩:=hA rfl
  obtain rfl:news= []:=List.length_eq_zero_iff.1 (by simpa using hl)
  have hrun:=run_append_owned_none (P:=prog) (w:=w) base t o.type e i0 size ht hi v k xs hown
  obtain⟨A',c',rfl⟩:=Gy hown
  have hP:=hK _ _ (h A' c' w (by
   simp only[Nat.add_zero,List.append_nil]
   exact hL.row i hi1 hown (World.grownBy.refl _ _) (.inl rfl)))
  simp only[Nat.add_zero] at hP
  unfold Oper.wp
  simp[execOp,ho,resolve,invoke,builtin,hs,hx,hrun,Result.andThen]
  exact hP
 |some ad=>
  obtain⟨v',w',hrun,h2,h3,h4⟩:=Kd w base t o.type e i0 _ size bytes ht hi hz0 hz1 hz2 hz hsz v k xs hown ad m c news hl (hnews ad rfl) h1 (by unfold maxLen;omega) (Nat.le_trans (Nat.mul_le_mul hn hby) (by decide)) hbase
  obtain⟨A',c',rfl⟩:=Gy h2
  have hP:=hK _ _ (h A' c' w' (hL.row i hi1 h2 h3 h4))
  unfold Oper.wp
  simp[execOp,ho,resolve,invoke,builtin,hs,hx,hrun,Result.andThen]
  exact hP
end
theorem Mt {o:Oper} {a:Act} {w:World} {x ix:Operand} {b n cap p:Nat} (ho:o.op= .slice 41 x none (some ix) none) (hx:a.eval x= .slice (some ⟨b,0,none⟩) n cap) (hix:a.eval ix= .int .i64 (p:Nat)) (hp:p<=cap):(execOp a.eval o).run prog w= .ok (.value (.slice (some ⟨b,0,none⟩) p cap)) w:=by
 have e0:(Instr.sliceAt 41 (.slice (some ⟨b,0,none⟩) n cap) none (some (.int .i64 (p:Nat))) none).run prog w= .ok (.slice (some ⟨b,0,none⟩) p cap) w:=by
  rw[run_sliceAt_slice (h:=by kernel_rfl),run_slice_h (ht:=by kernel_rfl) (h0:=by omega) (h2:=by omega)]
  have e:(sizeOf (prog.elem 41)).run prog w= .ok 5 w:=by kernel_rfl
  rw[e]
  simp[sliced,Addr.add,Result.andThen]
 unfold execOp
 simp only[ho,hx,hix,Option.map_some,Option.map_none]
 simp[e0]
theorem ex_slP {o:Oper} {a:Act} {w:World} {x ix:Operand} {b n cap p:Nat} (ho:o.op= .slice 52 x none (some ix) none) (hx:a.eval x= .slice (some ⟨b,0,none⟩) n cap) (hix:a.eval ix= .int .i64 (p:Nat)) (hp:p<=cap):(execOp a.eval o).run prog w= .ok (.value (.slice (some ⟨b,0,none⟩) p cap)) w:=by
 have e0:(Instr.sliceAt 52 (.slice (some ⟨b,0,none⟩) n cap) none (some (.int .i64 (p:Nat))) none).run prog w= .ok (.slice (some ⟨b,0,none⟩) p cap) w:=by
  rw[run_sliceAt_slice (h:=by kernel_rfl),run_slice_h (ht:=by kernel_rfl) (h0:=by omega) (h2:=by omega)]
  have e:(sizeOf (prog.elem 52)).run prog w= .ok 20 w:=by kernel_rfl
  rw[e]
  simp[sliced,Addr.add,Result.andThen]
 unfold execOp
 simp only[ho,hx,hix,Option.map_some,Option.map_none]
 simp[e0]
theorem askKeys (h:HP) (o:Int) (N:Nat) (w:World) (H:h.Is w) (G:h.Gd N) (hN:N<=90000) (hT:Tabs w):Calls prog 67 #[.pointer (some ⟨h.b,0,none⟩), .int .i64 o] w fun e w'=> ∃(h1:HP) (V:Value) (er:Value),e= .returned (.tuple #[V,er])/\AskP h N h1 er/\(∃A n c,V= .slice A n c)/\h.To h1 w w':=by
 refine(Vg h o N w H G hN hT).mono ?_
 rintro _ Y ⟨h1,V,er,rfl,(⟨h0,rfl,rfl,rfl⟩|⟨h0,j,q,rfl,hj,hD,hE⟩),T⟩
 ·exact⟨_,_,_,rfl,AskP.no G h0 (Ps _ _),⟨none,0,0,rfl⟩,T⟩
 ·exact⟨h1,_,_,rfl,AskP.low G hD.1 hE,hD.2,T⟩
structure AN where
 v:VV
 y:Bool
 d:DD
 kA:Option Addr
 kn:Nat
 kc:Nat
 o:Int
 f:Int
def Ay:AN:=⟨Av,false,Ak,none,0,0,0,0⟩
def Bl (n:AN):List Value:=n.v.cs++ [.bool n.y]++n.d.cs++ [.slice n.kA n.kn n.kc, .int .i64 n.o, .slice none 0 0]++Dq n.f
theorem Ed (n:AN): ∀u∈Bl n,u.oneCell'=true:=by simp[Bl,Dq,VV.cs,DD.cs,Value.oneCell']
def Je (M o T:Int) (k:KK) (v r:VV) (d:DD) (a:Value):List Value:= [.int .i64 M, .int .i64 o, .int .i64 T]++k.cs++v.cs++r.cs++d.cs++ [a]
def Yz (h:HP) (N:Nat) (M:Int) (k:KK) (v r:VV) (w:World) (e:Ending) (w':World):Prop:= ∃(h1:HP) (n:AN) (er:Value),e= .returned (.agg (Bl n).toArray)/\n.f=Bx er/\AskP h N h1 er/\(M=9->SetQ h r k v h1 n.y)/\h.To h1 w w'
def v7:VV:={Av with i:=7}
theorem Es:(prog.info? 36).map (fun i=>(i.zero,i.size,i.bytes))=some (some (.agg Av.cs.toArray),5,48):=by kernel_rfl
theorem Du (l:List VV): ∀u∈l.flatMap VV.cs,u.oneCell'=true:=by
 intro u hu
 obtain⟨v, -,h⟩:=List.mem_flatMap.1 hu
 exact Em v u h
theorem Mu {o:Oper} {a:Act} {w:World} (ho:o.op= .build 36 #[(4, .const (.int .i64 7))]):(execOp a.eval o).run prog w= .ok (.value (.agg v7.cs.toArray)) w:=by
 have e:(Instr.build 36 #[(4, .int .i64 7)]).run prog w= .ok (.agg v7.cs.toArray) w:=by kernel_rfl
 unfold execOp
 simp only[ho,List.map_toArray,List.map_cons,List.map_nil,show a.eval (.const (.int .i64 7))= .int .i64 7 from rfl]
 simp[e]
theorem Mg {X:World} {base e:Nat} {A:Option Addr} {c:Nat} {l:List VV} {v:VV} (h:X.ownsRow base e 5 (.slice A (l.length+1) c) (l.length+1) (l.flatMap VV.cs++ [v].flatMap VV.cs)):Gv X A (l++ [v]):=Om (f:=VV.cs) (fun _=>rfl) (by rw[List.flatMap_append];exact h) (by simp)
theorem Ku {X:World} {base e:Nat} {A:Option Addr} {c:Nat} {n:Nat} {ys:List Value} (h:X.ownsRow base e 5 (.slice A (n+1) c) (n+1) ys): ∃g,A=some ⟨g,0,none⟩/\n+1<=c:=by
 rcases h.2 with ⟨h1,h0⟩|⟨g,cap,cur,h1,h2,h3,h4,h5⟩
 ·omega
 ·cases h1
  exact⟨g,rfl,h4⟩
theorem Jw {X:World} {base e g:Nat} {c:Nat} {l:List VV} {v:VV} (h:X.ownsRow base e 5 (.slice (some ⟨g,0,none⟩) (l.length+1) c) (l.length+1) (l.flatMap VV.cs++ [v].flatMap VV.cs)):X.rangeAt g (0+l.length * 5) v.cs:=by
 obtain⟨b,off,h1, -,h3⟩:=Mg h l.length v (by simp)
 cases h1
 exact h3
theorem Jr {o:Oper} {a:Act} {W:World} {x:Operand} {B p:Nat} {cs:List Value} {v:Value} (t:TypeId) (i:Nat) (hna: ∀w,(isAgg t).run prog w= .ok false w) (ho:o.op= .load t x) (hx:a.eval x= .pointer (some ⟨B,p+i,none⟩)) (hc:W.rangeAt B p cs) (hv:cs[i]? =some v):(execOp a.eval o).run prog W= .ok (.value v) W:=by
 have h0:=hc i v hv
 unfold execOp
 simp only[ho,hx]
 simp[go_sem,h0,hna]
section
variable {ops : Array Oper} {rest : List Oper} {Q : Exit → Act → World → Prop} {w w0 : World} {a : Act} {o : Oper} {E : List Nat} {L : List Ob}
theorem Yy {t e:TypeId} {size bytes m c base:Nat} {z v:Value} {news:List Value} {A:Option Addr} {s x:Operand} (i:Nat) (hw:Region.wanted o (yielded ops a.tmps)=true) (ho:o.op= .call {callee:= .builtin .append,args:= #[s,x],argTypes:= #[t,t]}) (hs:a.eval s=v) (hx:a.eval x= .slice A m c)
  (ht:prog.underlying t=some (.slice e)) (hi:(prog.info? e).map (fun i=>(i.zero,i.size,i.bytes))=some (some z,size,bytes)) (hz:z.cells.size=size) (hsz:0<size) (hL:Sy w0 w E L) (hi1:L[i]? =some (Eg base e size v 0 [])) (hA:A=none->m=0/\c=0) (hl:news.length=m * size)
  (hnews: ∀ad,A=some ad-> ∀j u,news[j]? =some u->w.cell? (ad.add j)=some u) (h1: ∀u∈news,u.oneCell'=true)
  (hn:m<=4000000) (hby:bytes<=10000) (hbase:base<=w.heap.size)
  (h: ∀A c X,Sy w0 X E (L.set i (Eg base e size (.slice A m c) m news))->wpList prog ops Q rest (a.put o.dst (.slice A m c)) X):wpList prog ops Q (o::rest) a w:=
 apA i hw ho hs hx ht hi hz hsz hL hi1 hA hl hnews h1 (by omega) hby hbase (fun A c X hS=>by simp only[Nat.zero_add,List.nil_append] at hS ⊢;exact h A c X hS)
end
