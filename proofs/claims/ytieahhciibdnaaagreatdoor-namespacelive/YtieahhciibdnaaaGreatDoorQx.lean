import Derived.Test.YtieahhciibdnaaaGreatDoorQw
set_option linter.all false
namespace Go.Proofs.YtieahhciibdnaaaGreatDoor
set_option maxRecDepth 100000
set_option maxHeartbeats 0
section
open Go Go.Proofs Go.Maps Go.RowKit FM
def pr (T:TT):List (KK×DD):=T.live.map RR.pr
def hasP (l:List (KK×DD)) (k:KK):Bool:=l.any (fun e=>decide (e.1=k))
def lkP (l:List (KK×DD)) (k:KK):Option DD:=(l.find? (fun e=>decide (e.1=k))).map (·.2)
def putP (l:List (KK×DD)) (k:KK) (d:DD):List (KK×DD):=if hasP l k then l.map (fun e=>if e.1=k then (e.1,d) else e) else l++ [(k,d)]
def delP (l:List (KK×DD)) (k:KK):List (KK×DD):=l.filter (fun e=>decide (e.1≠k))
theorem pr_has (T:TT) (k:KK):hasP (pr T) k=(T.find k).isSome:=by
 unfold hasP pr TT.find
 rw[List.isSome_find?,List.any_map]
 rfl
theorem pr_lk (T:TT) (k:KK):lkP (pr T) k=(T.find k).map (·.d):=by
 unfold lkP pr TT.find
 rw[List.find?_map,Option.map_map]
 rfl
theorem pr_get (T:TT) (k:KK):getD T k=(lkP (pr T) k).getD Ar:=by
 rw[pr_lk]
 rfl
theorem Zcl {T T':TT} {k:KK} (hl:T'.live=T.live.filter (fun q=>decide (q.k≠k))):pr T'=delP (pr T) k:=by
 unfold pr delP
 rw[hl,List.filter_map]
 rfl
def PutT (T:TT) (k:KK) (d:DD) (T':TT):Prop:=(∃r,T.find k=some r/\T'=T.upd r.b d)∨(T.find k=none/\goodK k=true/\ ∃rv R,T'=T.added rv R k d)∨(T.find k=none/\goodK k=false/\T'=T)
theorem PutT.last {T T':TT} {k:KK} {d:DD} (h:PutT T k d T'):T'.last<=T.last+1:=by
 rcases h with ⟨r,h1,rfl⟩|⟨h1,h2,rv,B,rfl⟩|⟨h1,h2,rfl⟩
 ·exact Nat.le_succ _
 ·exact Nat.le_refl _
 ·exact Nat.le_succ _
theorem Zav {T T':TT} {W:World} {k:KK} {d:DD} (hT:T.Is W) (hg:goodK k=true) (h:PutT T k d T'):pr T'=putP (pr T) k d:=by
 unfold putP
 rw[pr_has]
 rcases h with ⟨r,h1,rfl⟩|⟨h1,h2,rv,R,rfl⟩|⟨h1,h2,rfl⟩
 ·rw[h1,if_pos (show (some r).isSome=true from rfl)]
  have hrl:r∈T.live:=List.mem_of_find?_eq_some h1
  have hrk:r.k=k:=(TT.find_mem h1).2.2
  unfold pr
  rw[TT.upd_live,List.map_map,List.map_map]
  apply List.map_congr_left
  intro q hq
  have e:=Zaj hT hrl hq
  show RR.pr (Oo r.b d q)=if (RR.pr q).1=k then ((RR.pr q).1,d) else RR.pr q
  unfold Oo
  by_cases hb:q.b=r.b
  ·rw[if_pos hb,if_pos (show (RR.pr q).1=k from (e.1 hb).trans hrk)]
   rfl
  ·rw[if_neg hb,if_neg (show ¬(RR.pr q).1=k from fun h=>hb (e.2 (Eq.trans h hrk.symm)))]
 ·rw[h1,if_neg (show ¬((none:Option RR).isSome=true) by simp)]
  unfold pr
  rw[TT.added_live,List.map_append]
  rfl
 ·rw[hg] at h2
  cases h2
def Tabs (w:World):Prop:=Lib.Utf8Tabs 1 2 w/\True
theorem Tabs.on {w X:World} (h:Tabs w) (k:Below w.heap.size w X):Tabs X:=⟨Al h.1 k,trivial⟩
theorem Tabs.fr {w X:World} {E:List Nat} (h:Tabs w) (hf:Fr w X E) (hE: ∀b∈E,6<=b):Tabs X:=
 ⟨Zap h.1 hf (fun b hb=>by have:=hE b hb;omega),trivial⟩
theorem HP.To.tabs {h h':HP} {w X:World} (A:h.To h' w X) (H:h.Is w) (hT:Tabs w):Tabs X:=hT.fr A.fr H.low
end
section
open Go Go.Proofs Go.Maps Go.RowKit FM Tryz
attribute [local go_sem] Ak Ae Aq Dl Dk Bl Af Aj Ad Bj Et Es
def empO (t B:Nat):Ob:=⟨[B],fun X=>X.heap[B]? =some (Obj.cells #[] t)⟩
theorem empO_ok (t B:Nat):(empO t B).Ok:=⟨fun h k=>(h B (List.mem_singleton.2 rfl)).trans k,fun h b hb=>by
 obtain rfl:=List.mem_singleton.1 hb
 exact(Array.getElem?_eq_some_iff.1 h).1⟩
theorem Sy.emp {w X:World} {E:List Nat} {L:List Ob} (h:Sy w X E L) (i:Nat) {t B:Nat} (hi:L[i]? =some (empO t B)):X.heap[B]? =some (Obj.cells #[] t):=h.get i hi
theorem cellsM87:prog.cellsOf 87=0:=by kernel_rfl
theorem Zek {w:World} {B:Nat} (h:w.heap[B]? =some (Obj.cells #[] 87)):(byteOf ⟨B,0,none⟩).run prog w= .ok 0 w:=by
 have hs:w.shape? B=some (87,0):=by simp[World.shape?,h]
 have hv:(viewAt B).run prog w= .ok none w:=by simp[viewAt,go_sem,hs]
 unfold byteOf
 simp[go_sem,noView,cellsM87,hs,hv]
theorem Kk {ops:Array Oper} {rest:List Oper} {Q:Exit->Act->World->Prop} {w w0:World} {a:Act} {o:Oper} {E:List Nat} {L:List Ob} {x:Operand} (hw:Region.wanted o (yielded ops a.tmps)=true) (ho:o.op= .box 87 x) (hx:a.eval x= .agg #[]) (hL:Sy w0 w E L)
  (h: ∀X B,Sy w0 X E (L++ [empO 87 B])->wpList prog ops Q rest (a.put o.dst (.pointer (some ⟨B,0,none⟩))) X):wpList prog ops Q (o::rest) a w:=by
 refine BigFrame.wpList_want hw fun K hK=> ?_
 have hP:=hK _ _ (h _ w.heap.size (hL.add (empO_ok _ _) (show (w.alloc (Obj.cells #[] 87)).heap[w.heap.size]? =_ from Array.getElem?_push_size) ((Below.refl _ _).alloc (Nat.le_refl _) _) (fun b hb=>by rw[List.mem_singleton.1 hb];exact Nat.le_refl _)))
 have e2:(Instr.box 87 (.agg #[])).run prog w= .ok (.pointer (some ⟨w.heap.size,0,none⟩)) (w.alloc (Obj.cells #[] 87)):=rfl
 unfold Oper.wp execOp
 simp only[ho,hx]
 simp[e2]
 exact hP
theorem Ml {o:Oper} {a:Act} {w:World} {x:Operand} {B:Nat} (ho:o.op= .fieldAddr 87 x 0) (hx:a.eval x= .pointer (some ⟨B,0,none⟩)) (h:w.heap[B]? =some (Obj.cells #[] 87)):(execOp a.eval o).run prog w= .ok (.value (.pointer (some ⟨B,0,none⟩))) w:=by
 unfold execOp
 simp only[ho,hx]
 simp[go_sem,partAt,Zek h]
theorem ldE {o:Oper} {a:Act} {w:World} {x:Operand} {B:Nat} (ho:o.op= .load 85 x) (hx:a.eval x= .pointer (some ⟨B,0,none⟩)):(execOp a.eval o).run prog w= .ok (.value (.agg #[])) w:=by
 unfold execOp
 simp only[ho,hx]
 simp[go_sem]
theorem ldA {o:Oper} {a:Act} {w:World} {x:Operand} {B:Nat} (ho:o.op= .load 87 x) (hx:a.eval x= .pointer (some ⟨B,0,none⟩)):(execOp a.eval o).run prog w= .ok (.value (.agg #[])) w:=by
 unfold execOp
 simp only[ho,hx]
 simp[go_sem]
theorem En (k:KK) (w:World):Calls prog 231 #[k.agg] w fun e w'=>e= .returned (.bool (k.n !=0))/\Below w.heap.size w w':=by
 have SS:=Ab (Sy.nil w [])
 rw[Dg]
 go_enter func231,ntmps231
 go_wp2_with (first|go_skip|((with_reducible show wpList ..);first|(refine zB 45 (k.cs) (by rfl) rfl rfl rfl SS ?_;clear SS;intro Xa Ba SS;simp only[nn])|(refine z1 3 isAgg3 0 (by rfl) rfl rfl SS rfl rfl ?_;simp only[nn])))
 go_ret
 exact⟨rfl,(Aa SS).fr.below⟩
theorem gop_s (h:HP) (j:Nat) (q:OB) (k:KK) (w:World) (H:h.Is w) (hl:h.l.length<=65536) (hj:h.l[j]? =some q) (hk:OkK k) (hs:k.n≠0):Calls prog 227 #[.agg #[], .pointer (some ⟨h.b,0,none⟩), .int .i64 ((j:Int)+1),k.agg] w fun e w'=>e= .returned (.tuple #[(getD q.T k).agg, .bool (q.T.find k).isSome, .nilIface])/\Below w.heap.size w w':=by
 have SS:=Ab (Sy.nil w [])
 rw[Dg]
 go_enter func227,ntmps227
 go_wp2_with (first|go_skip|((with_reducible show wpList ..);first|((refine Kk (by rfl) rfl rfl (Aa SS) ?_);intro X0 B0 S0;replace SS:=Ab S0;clear S0;simp only[nn])|(refine zB 45 (k.cs) (by rfl) rfl rfl rfl SS ?_;clear SS;intro Xa Ba SS;simp only[nn])|(refine zA 48 (Ar.cs) (by rfl) rfl SS ?_;clear SS;intro Xb Bb SS;simp only[nn])|(refine zL (k.cs) 45 2 1 rwK szK (by rfl) rfl rfl SS rfl rfl rfl ?_;simp only[nn])))
 have HC:=fun X=>En k X
 simp only[Dg] at HC
 refine(HC _).mono ?_
 clear HC
 rintro _ Y ⟨rfl,hb⟩
 replace SS:=Ab ((Aa SS).on hb)
 clear hb
 rw[show (k.n !=0)=true by simpa using hs]
 go_wp2_with (first|go_skip|((with_reducible show wpList ..);first|(refine rd rfl (Ml rfl rfl ((Aa SS).emp 0 rfl)) ?_)|(refine rd rfl (ldE rfl rfl) ?_)|(refine rd rfl (ldA rfl rfl) ?_)|(refine zL (k.cs) 45 2 1 rwK szK (by rfl) rfl rfl SS rfl rfl rfl ?_;simp only[nn])))
 have HC:=ord_own h j q k _ (H.on (Aa SS).fr.below) hl hj hk
 rw[Dg,Lh] at HC
 refine HC.mono ?_
 clear HC
 rintro _ Y ⟨rfl,hb⟩
 replace SS:=Ab ((Aa SS).on hb)
 clear hb
 go_wp2_with (first|go_skip|((with_reducible show wpList ..);first|(refine zS ((getD q.T k).cs) 2 48 (by rfl) rfl rfl rfl rfl (Gf _) szD SS rfl ?_;clear SS;intro Xz SS;simp only[nn])))
 refine bodyPost_ret (Ge rwD szD rfl rfl rfl rfl ((Aa SS).hold 2 rfl) rfl) rfl ?_
 exact⟨rfl,(Aa SS).fr.below⟩
theorem ldM {o:Oper} {a:Act} {w:World} {b:Bool} {v:Value} {t:Nat} (h:(execOp a.eval o).run prog w= .ok (.value (.iface (mt b) v)) w) (hb:mt b=t):(execOp a.eval o).run prog w= .ok (.value (.iface t v)) w:=hb▸h
theorem own_a (h:HP) (j:Nat) (q:OB) (k:KK) (w:World) (H:h.Is w) (hl:h.l.length<=65536) (hj:h.l[j]? =some q) (hk:OkK k) (hm:mt q.m=87) (hs:k.n≠0):Calls prog 165 #[.pointer (some ⟨h.b,0,none⟩), .int .i64 ((j:Int)+1),k.agg] w fun e w'=>e= .returned (.tuple #[(getD q.T k).agg, .bool (q.T.find k).isSome, .nilIface])/\Below w.heap.size w w':=by
 have SS:=Ab (Sy.nil w [])
 rw[Dg]
 go_enter func165,ntmps165
 go_wp2_with (first|go_skip|((with_reducible show wpList ..);first|(refine zB 45 (k.cs) (by rfl) rfl rfl rfl SS ?_;clear SS;intro Xa Ba SS;simp only[nn])|(refine zA 48 (Ar.cs) (by rfl) rfl SS ?_;clear SS;intro Xb Bb SS;simp only[nn])))
 have hS:Sy w _ [] [Ao Ba k.cs,Ao Bb Ar.cs]:=(Aa SS).drew
 clear SS
 have cu: ∀{X:World} {M:List Ob},Sy w X [] ([Ao Ba k.cs]++M)->Sy w X [] [Ao Ba k.cs]:=fun h=>Sy.left h
 refine wp_region_held_drew (P:=prog) (S:=fun X=>Sy w X [] [Ao Ba k.cs]) (by kernel_rfl) (cu hS) (fun hS0=> ?_)
 refine gp 0 (some 9) (.pointer (some ⟨h.b,0,none⟩)) rfl rfl (cu hS) ?_
 refine gp 1 (some 10) (.int .i64 ((j:Int)+1)) rfl rfl (cu hS) ?_
 refine gp 6 (some 15) (.pointer (some ⟨h.b,0,none⟩)) rfl rfl (cu hS) ?_
 refine gp 7 (some 16) (.int .i64 ((j:Int)+1)) rfl rfl (cu hS) ?_
 refine gq 8 (some 17) (.agg k.cs.toArray) rfl rfl (fun X hX=>Am (vs:=k.cs) 45 2 rwK szK rfl rfl (hX.hold 0 rfl) rfl rfl) (cu hS) ?_
 refine gr (rs:= [2]) (gcW 2 (some 11) rfl rfl (cu hS) (Pf h j q _ (H.on hS.fr.below) hj hl) ?_ gn)
 refine gp 3 (some 12) (.pointer (some ⟨q.b,0,none⟩)) rfl rfl (cu hS) ?_
 refine gp 4 (some 13) (.pointer (some ⟨q.b,8,none⟩)) rfl rfl (cu hS) ?_
 refine gq 5 (some 14) (.iface 87 (.agg #[])) rfl rfl (fun X hX=>ldM (Ag 118 isAgg118 rfl rfl ((H.on hX.fr.below).ob hj).1 rfl) hm) (cu hS) ?_
 refine gr (rs:= [9]) (gcB 9 (some 18) rfl rfl hS (gop_s h j q k _ (H.on hS.fr.below) hl hj hk hs) (fun x=>cu x) ?_ gn)
 intro Y2 hq2
 refine gp 10 (some 19) ((getD q.T k).agg) rfl rfl (cu hq2) ?_
 refine gp 11 (some 20) (.bool (q.T.find k).isSome) rfl rfl (cu hq2) ?_
 refine gp 12 (some 21) (.nilIface) rfl rfl (cu hq2) ?_
 refine gr (rs:= [13]) (Jd (vs:=(getD q.T k).cs) (new:=(getD q.T k).cs) 13 1 48 rfl rfl (by kernel_rfl) rfl rfl rfl rfl (Gf _) szD hq2 rfl (by simp[Bz,VV.cs,KK.cs,DD.cs,OB.cs,hcs,Ar,zeroV]) (by simp[Bz,VV.cs,KK.cs,DD.cs,OB.cs,hcs,Ar,zeroV]) (fun _ hZ=>cu hZ) ?_ gn)
 intro Y3 hq3
 refine gp 14 (some 7) (.bool (q.T.find k).isSome) rfl rfl (cu hq3) ?_
 refine gp 15 (some 8) (.nilIface) rfl rfl (cu hq3) ?_
 refine dn ?_
 try simp only[nn]
 have SS:=Ab hq3
 go_wp2
 refine bodyPost_ret (Ge rwD szD rfl rfl rfl rfl ((Aa SS).hold 1 rfl) rfl) rfl ?_
 exact⟨rfl,(Aa SS).fr.below⟩
theorem ZcZ (h:HP) (j:Nat) (q:OB) (k:KK) (w:World) (H:h.Is w) (hl:h.l.length<=65536) (hj:h.l[j]? =some q) (hk:OkK k) (hm:q.m=true) (hs:k.n≠0):Calls prog 165 #[.pointer (some ⟨h.b,0,none⟩), .int .i64 ((j:Int)+1),k.agg] w fun e w'=>e= .returned (.tuple #[(getD q.T k).agg, .bool (q.T.find k).isSome, .nilIface])/\Below w.heap.size w w':=by
 exact own_a h j q k w H hl hj hk (by rw[hm];rfl) hs
