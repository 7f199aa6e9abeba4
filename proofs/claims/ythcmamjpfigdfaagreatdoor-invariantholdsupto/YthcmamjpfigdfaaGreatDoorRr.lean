import Derived.Test.YthcmamjpfigdfaaGreatDoorRq
set_option linter.all false
namespace Go.Proofs.YthcmamjpfigdfaaGreatDoor
set_option maxRecDepth 100000
set_option maxHeartbeats 0
section
open Go Go.Proofs Go.Maps Go.RowKit FM
attribute [local go_sem] Al Ak Ar Ah Am Ai Au Dd Db Bi Aj Bh
def prC (e:KK×DD):List Value:=e.1.cs++e.2.cs
section
variable {ops:Array Oper} {rest:List Oper} {Q:Exit->Act->World->Prop} {w w0:World} {a:Act} {o:Oper} {E:List Nat} {L:List Ob}
theorem bsVn {cs:List Value} {n t:Nat} (hw:Region.wanted o (yielded ops a.tmps)=true) (he: ∀w,(execOp a.eval o).run Tryz.prog w= .ok (.value (.slice (some ⟨w.heap.size,0,none⟩) n n)) (w.alloc (Obj.cells cs.toArray t))) (hc:0<cs.length) (hL:Sy w0 w E L)
  (h: ∀X B,Sy w0 X E (L++ [Av B cs])->wpList Tryz.prog ops Q rest (a.put o.dst (.slice (some ⟨B,0,none⟩) n n)) X):wpList Tryz.prog ops Q (o::rest) a w:=by
 refine BigFrame.wpList_want hw fun K hK=> ?_
 have hP:=hK _ _ (h _ _ (hL.box cs t hc))
 unfold Oper.wp
 rw[he w]
 exact hP
end
theorem ZeI {n:Nat} {v:VV} (h:Eh n v=0):v.good=true:=by
 unfold Eh at h
 cases hg:v.good with
 |true=>rfl
 |false=>
  rw[hg] at h
  simp at h
theorem more_lt {h:HP} {gv:Value} {q:OB} (hq:q.p.good=true) (hp:pr q.T= []):LtB h (h.more gv q):=fun hw=>by
 have e:(h.more gv q).abs=h.abs++ [q.po]:=by unfold HP.abs HP.more;simp
 rw[WhH,e,show (h.more gv q).l.length=h.l.length+1 by unfold HP.more;simp]
 refine⟨fun r hr=> ?_,LtH.add hw _⟩
 rcases List.mem_append.1 hr with h1|h1
 ·exact(hw r h1).mono (Nat.le_succ _)
 ·rw[List.mem_singleton.1 h1]
  show q.p.good=true/\WhP _ (pr q.T)
  rw[hp]
  exact⟨hq,WhP.mk (fun e he=>by cases he) List.Pairwise.nil⟩
end
section
open Go Go.Proofs Go.Maps Go.RowKit FM Tryz
attribute [local go_sem] Al Ak Ar Ah Am Ai Au Dd Db Bi Aj Bh
def Ep (k:Int):List Value:= [.int .i64 k, .int .i64 0]++Aq.cs
theorem Nv (k:Int): ∀u∈Ep k,u.oneCell'=true:=by simp[Ep,VV.cs,Value.oneCell']
def Gc (er:Value):Int:=match er with| .iface _ (.int _ c)=>c|_=>0
theorem ta_errno (c:Int) (w:World):(Instr.typeAssert (Ax c) 66 31 true).run prog w= .ok (.tuple #[.int .i64 c, .bool true]) w:=by
 simp[Instr.typeAssert,Ax,run_underlying underlying31]
theorem ex_taE {o:Oper} {a:Act} {w:World} {x:Operand} {c:Int} (ho:o.op= .typeAssert x 66 31 true) (hx:a.eval x=Ax c):(execOp a.eval o).run prog w= .ok (.value (.tuple #[.int .i64 c, .bool true])) w:=by
 unfold execOp
 simp only[ho,hx]
 simp[ta_errno]
theorem ex_ifEqN {o:Oper} {a:Act} {w:World} {x:Operand} (ho:o.op= .binOp .eql 66 x (.const .nilIface) 66) (hx:a.eval x= .nilIface):(execOp a.eval o).run prog w= .ok (.value (.bool true)) w:=by
 unfold execOp
 simp only[ho,hx,show a.eval (.const .nilIface)= .nilIface from rfl]
 simp[go_sem,eqGuard]
theorem ex_ifEqE {o:Oper} {a:Act} {w:World} {x y:Operand} {c:Int} (ho:o.op= .binOp .eql 66 x y 66) (hx:a.eval x=Ax c) (hc:a.eval y= .nilIface):(execOp a.eval o).run prog w= .ok (.value (.bool false)) w:=by
 unfold execOp
 simp only[ho,hx,hc,Ax]
 simp[go_sem,eqGuard]
theorem ex_bf0 {o:Oper} {a:Act} {w:World} (ho:o.op= .build 58 #[]):(execOp a.eval o).run prog w= .ok (.value (.agg (Ep 0).toArray)) w:=by
 have e:(Instr.build 58 #[]).run prog w= .ok (.agg (Ep 0).toArray) w:=by kernel_rfl
 unfold execOp
 simp only[ho]
 simp[e]
theorem ex_bf1 {o:Oper} {a:Act} {w:World} {x:Operand} {c:Int} (ho:o.op= .build 58 #[(0,x)]) (hx:a.eval x= .int .i64 c):(execOp a.eval o).run prog w= .ok (.value (.agg (Ep c).toArray)) w:=by
 have e:(Instr.build 58 #[(0, .int .i64 c)]).run prog w= .ok (.agg (Ep c).toArray) w:=by kernel_rfl
 unfold execOp
 simp only[ho,List.map_toArray,List.map_cons,List.map_nil,hx]
 simp[e]
theorem fault_n (w:World):Calls prog 29 #[.nilIface] w fun e w'=>e= .returned (.agg (Ep 0).toArray)/\Below w.heap.size w w':=by
 have SS:=Ab (Sy.nil w [])
 go_enter func29,ntmps29
 go_wp2_with (first|go_skip|((with_reducible show wpList ..);first|(refine zA 58 (Ep 0) rfl SS ?_;clear SS;intro Xa Ba SS;simp only[nn])|(refine rd rfl (ex_ifEqN rfl rfl) ?_)|(refine rd rfl (ex_bf0 rfl) ?_)|((refine stS (vs:=Ep 0) 0 58 (by rfl) rfl rfl rfl rfl (Nv _) szF (Aa SS) rfl (by simp[Bt,Ep,VV.cs]) ?_);intro Xb Lb hfb hsb;replace SS:=Ab Lb;clear Lb hfb hsb;simp only[nn])))
 refine Lt rwF szF rfl rfl rfl ((Aa SS).hold 0 rfl) rfl ?_
 exact⟨rfl,(Aa SS).fr.below⟩
theorem fault_e (c:Int) (w:World):Calls prog 29 #[Ax c] w fun e w'=>e= .returned (.agg (Ep c).toArray)/\Below w.heap.size w w':=by
 have SS:=Ab (Sy.nil w [])
 go_enter func29,ntmps29
 go_wp2_with (first|go_skip|((with_reducible show wpList ..);first|(refine zA 58 (Ep 0) rfl SS ?_;clear SS;intro Xa Ba SS;simp only[nn])|(refine rd rfl (ex_ifEqE rfl rfl rfl) ?_)|(refine rd rfl (ex_taE rfl rfl) ?_)|(refine rd rfl (ex_bf1 rfl rfl) ?_)|((refine stS (vs:=Ep c) 0 58 (by rfl) rfl rfl rfl rfl (Nv _) szF (Aa SS) rfl (by simp[Bt,Ep,VV.cs]) ?_);intro Xb Lb hfb hsb;replace SS:=Ab Lb;clear Lb hfb hsb;simp only[nn])))
 refine Lt rwF szF rfl rfl rfl ((Aa SS).hold 0 rfl) rfl ?_
 exact⟨rfl,(Aa SS).fr.below⟩
theorem Zq (er:Value) (w:World) (h:er= .nilIface∨ ∃k,er=Ax k):Calls prog 29 #[er] w fun e w'=>e= .returned (.agg (Ep (Gc er)).toArray)/\Below w.heap.size w w':=by
 rcases h with rfl|⟨k,rfl⟩
 ·exact fault_n w
 ·exact fault_e k w

theorem ZaT (l:List VV) (A1 A2:Option Addr) (c1 c2:Nat) (w:World)  (hx: ∀v∈l,v.x<2^64) (hR1:Kx w A1 l) (hR2:Kx w A2 l) (hz:l.length<=4000000:=by omega):Calls prog 78 #[.slice A1 l.length c1, .slice A2 l.length c2] w fun e w'=>e= .returned (.bool true)/\Below w.heap.size w w':=by
 have SS:=Ab (Sy.nil w [])
 go_enter func78,ntmps78
 go_wp2_with (first|go_skip|((with_reducible show wpList ..);first|(refine rd rfl (Bp 44 40 underlying44 rfl rfl) ?_)|(refine rd rfl (Mm rfl rfl rfl rfl) ?_)))
 go_loopg [5] l.length (fun gm s5 wr=> ∃i:Nat,s5= .int .i64 (i:Nat)/\i<=l.length/\l.length - i<=gm/\Hid (Sy w wr [] []))
 case atStart=>exact⟨0,rfl,by omega,by omega,SS⟩
 case round=>
  clear SS
  obtain⟨i,rfl,hil,hgm,SS⟩:=hrel
  by_cases hlt:i<l.length
  ·obtain⟨v,hs⟩: ∃v,l[i]? =some v:=⟨_,List.getElem?_eq_getElem hlt⟩
   have hvx:=hx v (List.mem_of_getElem? hs)
   obtain⟨b1,o1,rfl,hb1,hr1⟩:=hR1 i v hs
   obtain⟨b2,o2,rfl,hb2,hr2⟩:=hR2 i v hs
   have HR1: ∀X,Sy w X [] []->X.rangeAt b1 (o1+i * 5) v.cs:=fun X hX=>Jj hr1 hb1 hX.fr.below
   have HR2: ∀X,Sy w X [] []->X.rangeAt b2 (o2+i * 5) v.cs:=fun X hX=>Jj hr2 hb2 hX.fr.below
   have dlt:decide ((i:Int)<(l.length:Int))=true:=decide_eq_true (by omega)
   have hw1:IntKind.i64.wrap ((i:Int)+1)=(i:Int)+1:=by rw[IntKind.wrap_i64];omega
   have HC:=fun (w:World)=>eq_any v v w
   simp only[eqB_self,Dg] at HC
   go_wp2_with (first|go_skip|((with_reducible show wpList ..);(refine rd rfl (Bp 44 40 underlying44 rfl rfl) ?_)))
   have hS6:Sy w _ [] []:=(Aa SS).drew
   clear SS
   refine wp_region_held_drew (P:=prog) (S:=fun X=>Sy w X [] _) (by kernel_rfl) (hS6) (fun hS0=> ?_)
   refine gp 0 (some 17) (.slice (some ⟨b1,o1,none⟩) l.length c1) rfl rfl (hS6) ?_
   refine gp 1 (some 18) (.int .i64 (i:Nat)) rfl rfl (hS6) ?_
   refine gq 2 (some 19) (.pointer (some ⟨b1,o1+i * 5,none⟩)) rfl rfl (fun X hX=>Bw 44 5 i Zy ZaF rfl rfl rfl hlt) (hS6) ?_
   refine gq 3 (some 20) (.agg (v.cs).toArray) rfl rfl (fun X hX=>Br (vs:=v.cs) 40 5 rwV szV rfl rfl (HR1 _ hX) rfl) (hS6) ?_
   refine gp 4 (some 21) (.slice (some ⟨b2,o2,none⟩) l.length c2) rfl rfl (hS6) ?_
   refine gp 5 (some 22) (.int .i64 (i:Nat)) rfl rfl (hS6) ?_
   refine gq 6 (some 23) (.pointer (some ⟨b2,o2+i * 5,none⟩)) rfl rfl (fun X hX=>Bw 44 5 i Zy ZaF rfl rfl rfl hlt) (hS6) ?_
   refine gq 7 (some 24) (.agg (v.cs).toArray) rfl rfl (fun X hX=>Br (vs:=v.cs) 40 5 rwV szV rfl rfl (HR2 _ hX) rfl) (hS6) ?_
   refine gr (rs:= [8]) (gcB 8 (some 25) rfl rfl hS6 (HC _) id ?_ gn)
   intro Y1 hq1
   refine gp 9 (some 26) (.bool false) rfl rfl (hq1) ?_
   refine dn ?_
   try simp only[nn]
   have SS:=Ab hq1
   go_wp2
   go_roundg (l.length - (i+1))
   case measure=>omega
   case rel=>exact⟨i+1,by go_num,by omega,by omega,SS⟩
  ·obtain rfl:i=l.length:=by omega
   go_wp2_with (first|go_skip|((with_reducible show wpList ..);(refine rd rfl (Bp 44 40 underlying44 rfl rfl) ?_)))
   go_ret
   exact⟨rfl,(Aa SS).fr.below⟩
def RC (c:Int):Prop:=c=0∨c=4∨c=5∨c=8
theorem Ps: ∀{l:List Int},(∀e∈l,RC e)->RC (orE l)
 | [],_=> .inl rfl
 |e::l,h=>by
  unfold orE
  split
  ·exact Ps (fun x hx=>h x (List.mem_cons_of_mem _ hx))
  ·exact h e (List.mem_cons_self ..)
theorem Pp (o:Int) (n:Nat):RC (thE o n):=by unfold thE;split<;>simp[RC]
theorem Zd7 (k:KK):RC (Da k):=by unfold Da;split<;>simp[RC]
theorem Zai (l:List VV):RC (Bm l):=by unfold Bm;split<;>simp[RC]
theorem Zak (n:Nat) (l:List VV):RC (Ay n l):=by unfold Ay;split<;>simp[RC]
theorem Zaj (v:VV):RC (Df v):=by unfold Df;split<;>simp[RC]
theorem Zal (d:DD):RC (Mt d):=by unfold Mt;split<;>simp[RC]
theorem Zam (l:List VV):RC (Mu l):=by unfold Mu;split<;>simp[RC]
def AskP (h:HP) (N:Nat) (h1:HP) (er:Value):Prop:=h1.Gd (N+1)/\Stp h h1/\((∃c,(c=4∨c=5∨c=8)/\er=Ax c/\h1=h)∨Ja h h1 er)
def SetQ (h:HP) (r:VV) (k:KK) (v:VV) (h1:HP) (y:Bool):Prop:=(y=false/\h1=h)∨(v.good=true/\ ∃er,SetP h r k v h1 y er)
theorem AskP.no {h:HP} {N:Nat} (G:h.Gd N) {c:Int} (h0:c≠0) (hc:RC c):AskP h N h (Ax c):=by
 refine⟨G.mono (Nat.le_succ _),Stp.refl _, .inl ⟨c, ?_,rfl,rfl⟩⟩
 rcases hc with h|h
 ·exact absurd h h0
 ·exact h
theorem AskP.low {h h1:HP} {N:Nat} {er:Value} (G:h.Gd N) (L:Low h h1) (E:Ja h h1 er):AskP h N h1 er:=⟨(Pw G L).mono (Nat.le_succ _),L.stp, .inr E⟩
theorem AskP.er {h h1:HP} {N:Nat} {er:Value} (A:AskP h N h1 er):er= .nilIface∨ ∃k,er=Ax k:=by
 rcases A.2.2 with ⟨c, -,h, -⟩|⟨h, -⟩
 ·exact .inr ⟨c,h⟩
 ·rcases h with h|h|h
  ·exact .inl h
  ·exact .inr ⟨_,h⟩
  ·exact .inr ⟨_,h⟩
theorem Pz {n:Nat} {l:List VV} (h:Ay n l=0): ∀v∈l,v.k=7->1<=v.i/\v.i<=(n:Int):=by
 intro v hv h7
 unfold Ay at h
 split at h
 ·rename_i ha
  have:=List.all_eq_true.1 ha v hv
  simp[Mi,h7,Ri] at this
  exact this
 ·cases h
theorem ZgQ {l:List VV} (h:Mu l=0): ∀v∈l,v.k≠7:=by
 intro v hv h7
 unfold Mu at h
 split at h
 ·rename_i ha
  have:=List.all_eq_true.1 ha v hv
  simp[Yn,h7] at this
 ·cases h
theorem Zc8 {v:VV} (h:Df v=0):v.k=2∨v.k=7:=by
 unfold Df at h
 split at h
 ·assumption
 ·cases h
theorem Vt (h:HP) (o:Int)  (N:Nat) (w:World) (H:h.Is w) (G:h.Gd N) (hN:N<=90000) (hT:Tabs w):Calls prog 68 #[.pointer (some ⟨h.b,0,none⟩), .int .i64 o] w fun e w'=> ∃(h1:HP) (V:VV) (er:Value),e= .returned (.tuple #[V.agg,er])/\AskP h N h1 er/\h.To h1 w w':=by
 refine(Yg h o  N w H G hN hT).mono ?_
 rintro _ Y ⟨h1,V,er,rfl,(⟨h0,rfl,rfl⟩|⟨h0,j,q,rfl,hj,hD,hE⟩),T⟩
 ·refine⟨_,_,_,rfl,AskP.no G h0 (Pp _ _),T⟩
 ·exact⟨h1,_,_,rfl,AskP.low G hD.1 hE,T⟩
theorem Zf (h:HP) (o:Int)  (N:Nat) (w:World) (H:h.Is w) (G:h.Gd N) (hN:N<=90000) (hT:Tabs w):Calls prog 70 #[.pointer (some ⟨h.b,0,none⟩), .int .i64 o] w fun e w'=> ∃(h1:HP) (y:Bool) (er:Value),e= .returned (.tuple #[.bool y,er])/\AskP h N h1 er/\h.To h1 w w':=by
 refine(ZaW h o  N w H G hN hT).mono ?_
 rintro _ Y ⟨h1,y,er,rfl,(⟨h0,rfl,rfl,rfl⟩|⟨h0,j,q,rfl,hj,hD,hE⟩),T⟩
 ·refine⟨_,_,_,rfl,AskP.no G h0 (Pp _ _),T⟩
 ·exact⟨h1,_,_,rfl,AskP.low G hD.1 hE,T⟩
theorem Ql (h:HP) (o:Int)  (N:Nat) (w:World) (H:h.Is w) (G:h.Gd N) (hN:N<=90000) (hT:Tabs w):Calls prog 71 #[.pointer (some ⟨h.b,0,none⟩), .int .i64 o] w fun e w'=> ∃(h1:HP) (y:Bool) (er:Value),e= .returned (.tuple #[.bool y,er])/\AskP h N h1 er/\h.To h1 w w':=by
 refine(Rm h o  N w H G hN hT).mono ?_
 rintro _ Y ⟨h1,y,er,rfl,(⟨h0,rfl,rfl,rfl⟩|⟨h0,j,q,rfl,hj,hD,hE⟩),T⟩
 ·refine⟨_,_,_,rfl,AskP.no G h0 (Pp _ _),T⟩
 ·rcases hD with ⟨-,L⟩|⟨-, -,L⟩
  ·exact⟨h1,_,_,rfl,AskP.low G L hE,T⟩
  ·exact⟨h1,_,_,rfl,⟨(Pw (shut_gd G hj) L).mono (Nat.le_succ _),Stp.trans (h1:=h.shut j q) ⟨List.length_set,rfl,rfl,rfl,ZdZ hj (fun hw=>⟨hw,lt_shut hw.2⟩)⟩ L.stp, .inr hE⟩,T⟩
theorem Vu (h:HP) (o:Int) (k:KK) (N:Nat) (w:World) (H:h.Is w) (G:h.Gd N) (hN:N<=90000) (hT:Tabs w) (hk:OkK k):Calls prog 72 #[.pointer (some ⟨h.b,0,none⟩), .int .i64 o,k.agg] w fun e w'=> ∃(h1:HP) (V:DD) (y:Bool) (er:Value),e= .returned (.tuple #[V.agg, .bool y,er])/\AskP h N h1 er/\h.To h1 w w':=by
 refine(Yh h o k N w H G hN hT hk).mono ?_
 rintro _ Y ⟨h1,V,y,er,rfl,(⟨h0,rfl,rfl⟩|⟨h0,j,q,rfl,hj,hD,hE⟩),T⟩
 ·refine⟨_,_,_,_,rfl,AskP.no G h0 (Ps (fun e he=>by simp only[List.mem_cons,List.not_mem_nil,or_false] at he;rcases he with rfl|rfl<;>first|exact Pp _ _|exact Zd7 _|exact Zai _|exact Zak _ _|exact Zaj _|exact Zal _|exact Zam _)),T⟩
 ·exact⟨h1,_,_,_,rfl,AskP.low G hD hE,T⟩
theorem Za7 (h:HP) (o:Int) (k:KK) (N:Nat) (w:World) (H:h.Is w) (G:h.Gd N) (hN:N<=90000) (hT:Tabs w) (hk:OkK k):Calls prog 73 #[.pointer (some ⟨h.b,0,none⟩), .int .i64 o,k.agg] w fun e w'=> ∃(h1:HP) (y:Bool) (er:Value),e= .returned (.tuple #[.bool y,er])/\AskP h N h1 er/\h.To h1 w w':=by
 refine(Zbn h o k N w H G hN hT hk).mono ?_
 rintro _ Y ⟨h1,y,er,rfl,(⟨h0,rfl,rfl,rfl⟩|⟨h0,j,q,rfl,hj,hD,hE⟩),T⟩
 ·refine⟨_,_,_,rfl,AskP.no G h0 (Ps (fun e he=>by simp only[List.mem_cons,List.not_mem_nil,or_false] at he;rcases he with rfl|rfl<;>first|exact Pp _ _|exact Zd7 _|exact Zai _|exact Zak _ _|exact Zaj _|exact Zal _|exact Zam _)),T⟩
 ·exact⟨h1,_,_,rfl,AskP.low G hD hE,T⟩
theorem askGet (h:HP) (o:Int) (k:KK) (r:VV) (N:Nat) (w:World) (H:h.Is w) (G:h.Gd N) (hN:N<=90000) (hT:Tabs w) (hk:OkK k):Calls prog 17 #[.pointer (some ⟨h.b,0,none⟩), .int .i64 o,k.agg,r.agg] w fun e w'=> ∃(h1:HP) (V:VV) (er:Value),e= .returned (.tuple #[V.agg,er])/\AskP h N h1 er/\h.To h1 w w':=by
 refine(doGet h o k r N w H G hN hT hk).mono ?_
 rintro _ Y ⟨h1,V,er,rfl,(⟨h0,rfl,rfl⟩|⟨h0,j,q,rfl,hj,hD,hE⟩),T⟩
 ·refine⟨_,_,_,rfl,AskP.no G h0 (Ps (fun e he=>by simp only[List.mem_cons,List.not_mem_nil,or_false] at he;rcases he with rfl|rfl|rfl|rfl<;>first|exact Pp _ _|exact Zd7 _|exact Zai _|exact Zak _ _|exact Zaj _|exact Zal _|exact Zam _)),T⟩
 ·exact⟨h1,_,_,rfl,AskP.low G hD hE,T⟩
theorem ZgL (h:HP) (o:Int) (k:KK) (N:Nat) (w:World) (H:h.Is w) (G:h.Gd N) (hN:N<=90000) (hT:Tabs w) (hk:OkK k):Calls prog 74 #[.pointer (some ⟨h.b,0,none⟩), .int .i64 o,k.agg] w fun e w'=> ∃(h1:HP) (y:Bool) (er:Value),e= .returned (.tuple #[.bool y,er])/\AskP h N h1 er/\h.To h1 w w':=by
 refine(doDelete h o k N w H G hN hT hk).mono ?_
 rintro _ Y ⟨h1,y,er,rfl,(⟨h0,rfl,rfl,rfl⟩|⟨h0,j,q,rfl,hj,hD,hE⟩),T⟩
 ·refine⟨_,_,_,rfl,AskP.no G h0 (Ps (fun e he=>by simp only[List.mem_cons,List.not_mem_nil,or_false] at he;rcases he with rfl|rfl<;>first|exact Pp _ _|exact Zd7 _|exact Zai _|exact Zak _ _|exact Zaj _|exact Zal _|exact Zam _)),T⟩
 ·rcases hD with ⟨-,L⟩|⟨-,⟨-,L⟩|⟨-,T',hc1,L,hl,hp⟩⟩
  ·exact⟨h1,_,_,rfl,AskP.low G L hE,T⟩
  ·exact⟨h1,_,_,rfl,AskP.low G L hE,T⟩
  ·have h2:(h.tab j q T').Gd (N+1):=tab_gd G hj (fun e he=>by rw[hp] at he;exact(G.wf.ob j q hj).ps e (List.mem_filter.1 he).1) (by have:=G.few j q hj;omega) (Nat.le_succ _)
   exact⟨h1,_,_,rfl,⟨Pw h2 L,(ZeX hj T' (del_lt hc1 hp)).trans L.stp, .inr hE⟩,T⟩
theorem Qm (h:HP) (o:Int) (k:KK) (d:DD) (N:Nat) (w:World) (H:h.Is w) (G:h.Gd N) (hN:N<=90000) (hT:Tabs w) (hk:OkK k) (hFd:FD d):Calls prog 16 #[.pointer (some ⟨h.b,0,none⟩), .int .i64 o,k.agg,d.agg] w fun e w'=> ∃(h1:HP) (y:Bool) (er:Value),e= .returned (.tuple #[.bool y,er])/\AskP h N h1 er/\h.To h1 w w':=by
 refine(Ro h o k d N w H G hN hT hk hFd).mono ?_
 rintro _ Y ⟨h1,y,er,rfl,(⟨h0,rfl,rfl,rfl⟩|⟨h0,j,q,rfl,hj,hD,hE⟩),T⟩
 ·refine⟨_,_,_,rfl,AskP.no G h0 (Ps (fun e he=>by simp only[List.mem_cons,List.not_mem_nil,or_false] at he;rcases he with rfl|rfl|rfl|rfl|rfl<;>first|exact Pp _ _|exact Zd7 _|exact Zai _|exact Zak _ _|exact Zaj _|exact Zal _|exact Zam _)),T⟩
 ·have hz:=Ef h0
  have ha:=ZgQ (hz _ (by simp:Mu [d.g,d.s]∈_))
  have hg:=DefE.gd G hj hFd (ha d.g (by simp)) (ha d.s (by simp)) (Ra (hz (Da k) (by simp))) (chk_o (hz (Mt d) (by simp)) (fun h7=>(Pz (hz (Ay h.l.length [d.v,d.g,d.s]) (by simp)) d.v (by simp) h7).2)) hD
  exact⟨h1,_,_,rfl,⟨hg.1,hg.2, .inr hE⟩,T⟩
theorem askSet (h:HP) (o:Int) (k:KK) (v:VV) (r:VV) (N:Nat) (w:World) (H:h.Is w) (G:h.Gd N) (hN:N<=90000) (hT:Tabs w) (hk:OkK k) (hvx:v.x<2^64):Calls prog 19 #[.pointer (some ⟨h.b,0,none⟩), .int .i64 o,k.agg,v.agg,r.agg] w fun e w'=> ∃(h1:HP) (y:Bool) (er:Value),e= .returned (.tuple #[.bool y,er])/\AskP h N h1 er/\SetQ h r k v h1 y/\h.To h1 w w':=by
 refine(doSet h o k v r N w H G hN hT hk hvx).mono ?_
 rintro _ Y ⟨h1,y,er,rfl,(⟨h0,rfl,rfl,rfl⟩|⟨h0,j,q,rfl,hj,hD,hE⟩),T⟩
 ·refine⟨_,_,_,rfl,AskP.no G h0 (Ps (fun e he=>by simp only[List.mem_cons,List.not_mem_nil,or_false] at he;rcases he with rfl|rfl|rfl|rfl<;>first|exact Pp _ _|exact Zd7 _|exact Zai _|exact Zak _ _|exact Zaj _|exact Zal _|exact Zam _)), .inl ⟨rfl,rfl⟩,T⟩
 ·have hz:=Ef h0
  have hg:=SetP.gd G hvx (Ra (hz (Da k) (by simp))) (fun h7=>⟨(Pz (hz (Ay h.l.length [v,r]) (by simp)) v (by simp) h7).2,Rw (hz (Bm [v,r]) (by simp)) v (by simp)⟩) hD
  exact⟨h1,_,_,rfl,⟨hg.1,hg.2, .inr hE⟩, .inr ⟨Rw (Ef h0 (Bm [v,r]) (by simp)) v (by simp),_,hD⟩,T⟩
theorem Vs (h:HP) (o:Int) (v:VV) (N:Nat) (w:World) (H:h.Is w) (G:h.Gd N) (hN:N<=90000) (hT:Tabs w) (hvx:v.x<2^64):Calls prog 69 #[.pointer (some ⟨h.b,0,none⟩), .int .i64 o,v.agg] w fun e w'=> ∃(h1:HP) (y:Bool) (er:Value),e= .returned (.tuple #[.bool y,er])/\AskP h N h1 er/\h.To h1 w w':=by
 refine(Ye h o v N w H G hN hT).mono ?_
 rintro _ Y ⟨h1,y,er,rfl,(⟨h0,rfl,rfl,rfl⟩|⟨h0,j,q,rfl,hj,hD,hE⟩),T⟩
 ·refine⟨_,_,_,rfl,AskP.no G h0 (Ps (fun e he=>by simp only[List.mem_cons,List.not_mem_nil,or_false] at he;rcases he with rfl|rfl|rfl|rfl<;>first|exact Pp _ _|exact Zd7 _|exact Zai _|exact Zak _ _|exact Zaj _|exact Zal _|exact Zam _)),T⟩
 ·have hz:=Ef h0
  have hkn:=Pz (hz _ (by simp:Ay h.l.length [v]∈_)) v (by simp)
  have hpk:=Zc8 (hz _ (by simp:Df v∈_))
  rcases hD with ⟨-,L⟩|⟨-,L|⟨-,L,hqx,hR⟩⟩
  ·exact⟨h1,_,_,rfl,AskP.low G L hE,T⟩
  ·exact⟨h1,_,_,rfl,AskP.low G L hE,T⟩
  ·exact⟨h1,_,_,rfl,⟨(Pw (prot_gd G hj hvx hpk hkn hR) L).mono (Nat.le_succ _),Stp.trans (h1:=h.prot j q v) ⟨List.length_set,rfl,rfl,rfl,ZdZ hj (fun hw=>⟨⟨Rw (hz (Bm [v]) (by simp)) v (by simp),hw.2⟩,lt_prot hw.2 hqx v⟩)⟩ L.stp, .inr hE⟩,T⟩
end
section
open Go Go.Proofs Go.Maps Go.RowKit FM
attribute [local go_sem] Al Ak Ar Ah Am Ai Au Dd Db Bi Aj Bh
theorem lk_hit {l:List (KK×DD)} {k:KK} {i:Nat} {x:KK×DD} (h: ∀(j:Nat) (e:KK×DD),j<i->l[j]? =some e->e.1≠k) (hx:l[i]? =some x) (hk:x.1=k):lkP l k=some x.2:=by
 induction l generalizing i with
 |nil=>simp at hx
 |cons a l ih=>
  cases i with
  |zero=>
   obtain rfl:a=x:=by simpa using hx
   simp[lkP,hk]
  |succ i=>
   have h0:a.1≠k:=h 0 a (by omega) rfl
   have h1:=ih (i:=i) (fun j e hj he=>h (j+1) e (by omega) (by simpa using he)) (by simpa using hx)
   unfold lkP at h1 ⊢
   rw[List.find?_cons_of_neg (by simpa using h0)]
   exact h1
end
section
open Go Go.Proofs Go.RowKit FM
theorem Zgc (a b:DD) (ha:FD a) (hb:FD b) (w:World) (hT:Lib.Utf8Tabs 1 2 w):Calls Tryz.prog 52 #[a.agg,b.agg] w fun e w'=>e= .returned (.tuple #[.bool (keepB a b), .int .i64 (Zdo a b)])/\Below w.heap.size w w':=by
 have HT:=Ab hT
 clear hT
 have HA:=Ab (fun w hT=>Rv a ha w hT)
 have HB:=Ab (fun w hT=>Rv b hb w hT)
 have HN:=Ab (Pu a ha)
 have HK:=Ab (fun w hT=>kept_any a b ha hb w hT)
 clear ha hb
 have LL:=Ab (Lie.new2 w (.D a) (.D b))
 unfold keepB Zdo
 generalize stV a=sa at *
 generalize stV b=sb at *
 generalize noV a=no at *
 generalize Ln a b=kt at *
 generalize hq:(a.c==2)=q at *
 have hq0:=Gk a
 have hq1:=Gk b
 rw[hq0,hq1]
 clear hq0 hq1
 go_enter Tryz.func52,Tryz.ntmps52
 go_wp2_with (first|go_skip|((first|((with_reducible apply Bu);(case ho|hw=>rfl);(case hx=>rfl))|((with_reducible apply Ds);(case ho|hw=>rfl);(case hx=>rfl)));(case hc=>first|exact(Aa LL).one|exact(Aa LL).two);simp only[nn]))
 refine(Aa HA _ (Ao (Aa HT) (Aa LL).below)).mono ?_
 rintro _ w11 ⟨rfl,hb⟩
 replace LL:=Ab ((Aa LL).on hb)
 clear hb
 cases sa
 ·go_wp2_with (go_skip)
  go_ret2
  exact⟨rfl,(Aa LL).below⟩
 ·go_wp2_with (first|go_skip|((first|((with_reducible apply Bu);(case ho|hw=>rfl);(case hx=>rfl))|((with_reducible apply Ds);(case ho|hw=>rfl);(case hx=>rfl)));(case hc=>first|exact(Aa LL).one|exact(Aa LL).two);simp only[nn]))
  refine(Aa HB _ (Ao (Aa HT) (Aa LL).below)).mono ?_
  rintro _ w12 ⟨rfl,hb⟩
  replace LL:=Ab ((Aa LL).on hb)
  clear hb
  cases sb
  ·go_wp2_with (go_skip)
   go_ret2
   exact⟨rfl,(Aa LL).below⟩
  ·go_wp2_with (first|go_skip|((first|((with_reducible apply Bu);(case ho|hw=>rfl);(case hx=>rfl))|((with_reducible apply Ds);(case ho|hw=>rfl);(case hx=>rfl)));(case hc=>first|exact(Aa LL).one|exact(Aa LL).two);simp only[nn]))
   refine(Aa HN _).mono ?_
   rintro _ w13 ⟨rfl,hb⟩
   replace LL:=Ab ((Aa LL).on hb)
   clear hb
   cases no
   ·cases q
    ·go_wp2_with (first|go_skip|((first|((with_reducible apply Bu);(case ho|hw=>rfl);(case hx=>rfl))|((with_reducible apply Ds);(case ho|hw=>rfl);(case hx=>rfl)));(case hc=>first|exact(Aa LL).one|exact(Aa LL).two);simp only[nn]))
     refine(Aa HK _ (Ao (Aa HT) (Aa LL).below)).mono ?_
     rintro _ w14 ⟨rfl,hb⟩
     replace LL:=Ab ((Aa LL).on hb)
     clear hb
     go_wp2_with (go_skip)
     go_ret2
     exact⟨rfl,(Aa LL).below⟩
    ·go_wp2_with (first|go_skip|((first|((with_reducible apply Bu);(case ho|hw=>rfl);(case hx=>rfl))|((with_reducible apply Ds);(case ho|hw=>rfl);(case hx=>rfl)));(case hc=>first|exact(Aa LL).one|exact(Aa LL).two);simp only[nn]))
     go_ret2
     exact⟨rfl,(Aa LL).below⟩
   ·go_wp2_with (go_skip)
    go_ret2
    exact⟨rfl,(Aa LL).below⟩
end
section
open Go Go.Proofs Go.Maps Go.RowKit FM
attribute [local go_sem] Al Ak Ar Ah Am Ai Au Dd Db Bi Aj Bh
structure ShOk (s:PO):Prop where
 n: ∃n,WhP n s.ps
 fd: ∀e∈s.ps,FD e.2
 px:s.p.x<2^64
 z:s.ps.length<=1000000
theorem lk_get {n:Nat} {l:List (KK×DD)} (h:WhP n l) {i:Nat} {e:KK×DD} (he:l[i]? =some e):lkP l e.1=some e.2:=by
 refine lk_hit (i:=i) (fun j e2 hj h2 h3=> ?_) he rfl
 have hlt:=(List.getElem?_eq_some_iff.1 he).1
 have a1:(l.map Prod.fst)[j]? =some e.1:=by rw[List.getElem?_map,h2,Option.map_some,h3]
 have a2:(l.map Prod.fst)[i]? =some e.1:=by rw[List.getElem?_map,he];rfl
 have hj2:j<(l.map Prod.fst).length:=by rw[List.length_map];omega
 have:=(List.getElem?_inj hj2 h.nd).1 (a1.trans a2.symm)
 omega
