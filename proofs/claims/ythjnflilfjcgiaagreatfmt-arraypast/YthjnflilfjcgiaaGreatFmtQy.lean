import Derived.Test.YthjnflilfjcgiaaGreatFmtQx
set_option linter.all false
namespace Go.Proofs.YthjnflilfjcgiaaGreatFmt
set_option maxRecDepth 100000
set_option maxHeartbeats 0
section
open Go Go.Proofs Go.Maps Go.RowKit FM
def pr (T:TT):List (KK×DD):=T.live.map RR.pr
def Pw (l:List (KK×DD)) (k:KK):Bool:=l.any (fun e=>decide (e.1=k))
def lkP (l:List (KK×DD)) (k:KK):Option DD:=(l.find? (fun e=>decide (e.1=k))).map (·.2)
def ZaH (l:List (KK×DD)) (k:KK) (d:DD):List (KK×DD):=if Pw l k then l.map (fun e=>if e.1=k then (e.1,d) else e) else l++ [(k,d)]
def Zde (l:List (KK×DD)) (k:KK):List (KK×DD):=l.filter (fun e=>decide (e.1≠k))
theorem Zh (T:TT) (k:KK):Pw (pr T) k=(T.find k).isSome:=by
 unfold Pw pr TT.find
 rw[List.isSome_find?,List.any_map]
 rfl
theorem pr_lk (T:TT) (k:KK):lkP (pr T) k=(T.find k).map (·.d):=by
 unfold lkP pr TT.find
 rw[List.find?_map,Option.map_map]
 rfl
theorem Zi (T:TT) (k:KK):getD T k=(lkP (pr T) k).getD Ap:=by
 rw[pr_lk]
 rfl
theorem lk_has (l:List (KK×DD)) (k:KK):(lkP l k).isSome=Pw l k:=by
 unfold lkP Pw
 rw[Option.isSome_map,List.isSome_find?]
theorem ZbC {T T':TT} {k:KK} (hl:T'.live=T.live.filter (fun q=>decide (q.k≠k))):pr T'=Zde (pr T) k:=by
 unfold pr Zde
 rw[hl,List.filter_map]
 rfl
def PutT (T:TT) (k:KK) (d:DD) (T':TT):Prop:=(∃r,T.find k=some r/\T'=T.upd r.b d)∨(T.find k=none/\goodK k=true/\ ∃rv R,T'=T.added rv R k d)∨(T.find k=none/\goodK k=false/\T'=T)
theorem PutT.last {T T':TT} {k:KK} {d:DD} (h:PutT T k d T'):T'.last<=T.last+1:=by
 rcases h with ⟨r,h1,rfl⟩|⟨h1,h2,rv,B,rfl⟩|⟨h1,h2,rfl⟩
 ·exact Nat.le_succ _
 ·exact Nat.le_refl _
 ·exact Nat.le_succ _
theorem Zg {T T':TT} {W:World} {k:KK} {d:DD} (hT:T.Is W) (hg:goodK k=true) (h:PutT T k d T'):pr T'=ZaH (pr T) k d:=by
 unfold ZaH
 rw[Zh]
 rcases h with ⟨r,h1,rfl⟩|⟨h1,h2,rv,R,rfl⟩|⟨h1,h2,rfl⟩
 ·rw[h1,if_pos (show (some r).isSome=true from rfl)]
  have hrl:r∈T.live:=List.mem_of_find?_eq_some h1
  have hrk:r.k=k:=(TT.find_mem h1).2.2
  unfold pr
  rw[TT.upd_live,List.map_map,List.map_map]
  apply List.map_congr_left
  intro q hq
  have e:=Yq hT hrl hq
  show RR.pr (Ol r.b d q)=if (RR.pr q).1=k then ((RR.pr q).1,d) else RR.pr q
  unfold Ol
  by_cases hb:q.b=r.b
  ·rw[if_pos hb,if_pos (show (RR.pr q).1=k from (e.1 hb).trans hrk)]
   rfl
  ·rw[if_neg hb,if_neg (show ¬(RR.pr q).1=k from fun h=>hb (e.2 (Eq.trans h hrk.symm)))]
 ·rw[h1,if_neg (show ¬((none:Option RR).isSome=true) by simp)]
  unfold pr
  rw[TT.added_live,List.map_append]
  rfl
 ·rw[hg] at h2
  cases h2
structure PO where
 c:Int
 p:VV
 x:Bool
 ps:List (KK×DD)
def OB.po (o:OB):PO:=⟨o.c,o.p,o.x,pr o.T⟩
def Tabs (w:World):Prop:=Lib.Utf8Tabs 4 5 w/\TabP w
theorem Tabs.on {w X:World} (h:Tabs w) (k:Below w.heap.size w X):Tabs X:=⟨Ao h.1 k,h.2.on k⟩
theorem Tabs.fr {w X:World} {E:List Nat} (h:Tabs w) (hf:Fr w X E) (hE: ∀b∈E,6<=b):Tabs X:=by
 refine⟨Yx h.1 hf (fun b hb=>by have:=hE b hb;omega), ?_⟩
 have h2:=h.2
 unfold TabP Lib.TabIs World.var? at *
 have hg : Tryz.prog.globalNamed "internal/strconv.uint64pow10" = some 1 := by kernel_rfl
 simp only[hg,Option.bind_some] at h2 ⊢
 have hlt:1<w.heap.size:=by
  rcases Nat.lt_or_ge 1 w.heap.size with h'|h'
  ·exact h'
  ·rw[Array.getElem?_eq_none h'] at h2;simp at h2
 rw[hf.block 1 hlt (fun hm=>by have:=hE 1 hm;omega)]
 exact h2
theorem HP.To.tabs {h h':HP} {w X:World} (A:h.To h' w X) (H:h.Is w) (hT:Tabs w):Tabs X:=hT.fr A.fr H.low
end
section
open Go Go.Proofs Go.Maps Go.RowKit FM
attribute [local go_sem] Ad Ag Ak Df Bi Ae Bg
theorem Zcb (h:HP) (j:Nat) (q:OB) (k:KK) (w:World) (H:h.Is w) (hl:h.l.length<=65536) (hj:h.l[j]? =some q) (hk:OkK k):Calls Tryz.prog 154 #[.pointer (some ⟨h.b,0,none⟩), .int .i64 ((j:Int)+1),k.agg] w fun e w'=>e= .returned (.tuple #[(getD q.T k).agg, .bool (q.T.find k).isSome, .nilIface])/\Below w.heap.size w w':=by
 have SS:=Ab (Sy.nil w [])
 rw[Le]
 go_enter Tryz.func154,Tryz.ntmps154
 go_wp2_with (first|go_skip|((with_reducible show wpList ..);first|(refine zB 42 (k.cs) (by rfl) rfl rfl rfl SS ?_;clear SS;intro Xa Ba SS;simp only[nn])|(refine zA 53 (Ap.cs) (by rfl) rfl SS ?_;clear SS;intro Xb Bb SS;simp only[nn])))
 have hS:Sy w _ [] [Am Ba k.cs,Am Bb Ap.cs]:=(Aa SS).drew
 clear SS
 have cu: ∀{X:World} {M:List Ob},Sy w X [] ([Am Ba k.cs]++M)->Sy w X [] [Am Ba k.cs]:=fun h=>Sy.left h
 refine wp_region_held_drew (P:=Tryz.prog) (S:=fun X=>Sy w X [] [Am Ba k.cs]) (by kernel_rfl) (cu hS) (fun hS0=> ?_)
 refine gp 0 (some 9) (.pointer (some ⟨h.b,0,none⟩)) rfl rfl (cu hS) ?_
 refine gp 1 (some 10) (.int .i64 ((j:Int)+1)) rfl rfl (cu hS) ?_
 refine gp 6 (some 15) (.pointer (some ⟨h.b,0,none⟩)) rfl rfl (cu hS) ?_
 refine gp 7 (some 16) (.int .i64 ((j:Int)+1)) rfl rfl (cu hS) ?_
 refine gq 8 (some 17) (.agg k.cs.toArray) rfl rfl (fun X hX=>Aj (vs:=k.cs) 42 2 rwK szK rfl rfl (hX.hold 0 rfl) rfl rfl) (cu hS) ?_
 refine gr (rs:= [2]) (gcW 2 (some 11) rfl rfl (cu hS) (Qu h j q _ (H.on hS.fr.below) hj hl) ?_ gn)
 refine gp 3 (some 12) (.pointer (some ⟨q.b,0,none⟩)) rfl rfl (cu hS) ?_
 refine gp 4 (some 13) (.pointer (some ⟨q.b,8,none⟩)) rfl rfl (cu hS) ?_
 refine gq 5 (some 14) (.iface 83 (.agg #[])) rfl rfl (fun X hX=>Ai 122 Tryz.isAgg122 rfl rfl ((H.on hX.fr.below).ob hj).1 rfl) (cu hS) ?_
 refine gr (rs:= [9]) (gcB 9 (some 18) rfl rfl hS (Rs h j q k _ (H.on hS.fr.below) hl hj hk) (fun x=>cu x) ?_ gn)
 intro Y2 hq2
 refine gp 10 (some 19) ((getD q.T k).agg) rfl rfl (cu hq2) ?_
 refine gp 11 (some 20) (.bool (q.T.find k).isSome) rfl rfl (cu hq2) ?_
 refine gp 12 (some 21) (.nilIface) rfl rfl (cu hq2) ?_
 refine gr (rs:= [13]) (Lv (vs:=(getD q.T k).cs) (new:=(getD q.T k).cs) 13 1 53 rfl rfl (by kernel_rfl) rfl rfl rfl rfl (Jy _) szD hq2 rfl (by simp[Dp,VV.cs,KK.cs,DD.cs,OB.cs,hcs,Ap,Be]) (by simp[Dp,VV.cs,KK.cs,DD.cs,OB.cs,hcs,Ap,Be]) (fun _ hZ=>cu hZ) ?_ gn)
 intro Y3 hq3
 refine gp 14 (some 7) (.bool (q.T.find k).isSome) rfl rfl (cu hq3) ?_
 refine gp 15 (some 8) (.nilIface) rfl rfl (cu hq3) ?_
 refine wpAnyH_done (by kernel_rfl) ?_ _
 try simp only[nn]
 have SS:=Ab hq3
 go_wp2
 refine bodyPost_ret (Rr rwD szD rfl rfl rfl rfl ((Aa SS).hold 1 rfl) rfl) rfl ?_
 exact⟨rfl,(Aa SS).fr.below⟩
