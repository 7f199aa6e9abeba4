import Derived.Test.YthcmamjpfigdfaaGreatDoorRc
import Derived.Test.YthcmamjpfigdfaaGreatDoorRa
import Derived.Defers
set_option linter.all false
namespace Go.Proofs.YthcmamjpfigdfaaGreatDoor
set_option maxRecDepth 100000
set_option maxHeartbeats 0
section
open Go Go.Proofs Go.Maps Go.RowKit Tryz
theorem run_mm (n:Nat) (w:World):(Instr.makeMap 190 (some (.int .i64 (n:Nat)))).run prog w= .ok (.map (some w.heap.size)) (w.alloc (.map #[] 0)):=by
 simp[Instr.makeMap,go_sem]
theorem siz69:(prog.info? 190).map (·.size)=some 1:=by kernel_rfl
theorem ex_mm {o:Oper} {a:Act} {w:World} {x:Operand} {n:Nat} (ho:o.op= .makeMap 190 (some x)) (hx:a.eval x= .int .i64 (n:Nat)):(execOp a.eval o).run prog w= .ok (.value (.map (some w.heap.size))) (w.alloc (.map #[] 0)):=by
 unfold execOp
 simp only[ho,hx,Option.map_some]
 simp[run_mm]
theorem rdw {ops:Array Oper} {rest:List Oper} {Q:Exit->Act->World->Prop} {w X:World} {a:Act} {o:Oper} {v:Value} (hw:Region.wanted o (yielded ops a.tmps)=true) (hy:(execOp a.eval o).run prog w= .ok (.value v) X) (h:wpList prog ops Q rest (a.put o.dst v) X):wpList prog ops Q (o::rest) a w:=by
 refine BigFrame.wpList_want hw fun K hK=> ?_
 have hP:=hK _ _ h
 unfold Oper.wp
 rw[hy]
 exact hP
def fnd (l:List RR) (k:KK):Option Nat:=(l.find? (fun r=>decide (r.k=k))).map (·.b)
theorem fnd_take {l:List RR} (hp:l.Pairwise (fun a b=>a.k≠b.k)) {j:Nat} (hj:j<l.length):fnd (l.take j) l[j].k=none/\Rg (fnd (l.take j)) l[j].k (some l[j].b)=fnd (l.take (j+1)):=by
 have hno: ∀r∈l.take j,r.k≠l[j].k:=by
  intro r hr
  obtain⟨i,hi,rfl⟩:=List.mem_take_iff_getElem.1 hr
  exact List.pairwise_iff_getElem.1 hp i j (by omega) hj (by omega)
 have h0:(l.take j).find? (fun r=>decide (r.k=l[j].k))=none:=by
  rw[List.find?_eq_none]
  intro r hr
  simpa using hno r hr
 refine⟨by unfold fnd;rw[h0];rfl, ?_⟩
 funext q
 unfold fnd
 rw[List.take_succ_eq_append_getElem hj,List.find?_append]
 by_cases e:q=l[j].k
 ·subst e
  rw[h0,No]
  simp
 ·rw[Mg e]
  have e2:([l[j]]:List RR).find? (fun r=>decide (r.k=q))=none:=by
   simp
   exact fun h=>e h.symm
  rw[e2]
  simp
structure CPk (T:TT) (w1 wr:World) (A:Option Addr) (n c M j:Nat):Prop where
 tab:Holds wr T.t [.map (some M), .slice A n c, .int .u64 T.last]
 map:MapIs wr M j j (fnd (T.live.take j))
 fr:Fr w1 wr [T.t]
theorem Zgu (T:TT) (w:World) (hT:T.Is w) (hl:T.last<100000):Calls prog 221 #[.pointer (some ⟨T.t,0,none⟩)] w fun e w'=>e= .returned (.tuple #[])/\ ∃m rv,(T.packed m rv).Is w'/\Fr w w' [T.t]/\(∀b∈(T.packed m rv).blocks,b∈T.blocks∨w.heap.size<=b):=by
 have C39:=Ab (ZdE T w hT hl)
 have HT:=Ab hT
 have hlen:=hT.len
 have hlv:=T.live_le
 obtain⟨n,hn⟩: ∃n,n=T.live.length:=⟨_,rfl⟩
 have hn1:n<=100000:=by omega
 have hnl:Hid (n<=T.last):=Ab (by omega)
 have Hn:=Ab hn
 clear hT hlen hlv hl hn
 go_enter func221,ntmps221
 go_wp2_with fail
 refine(Aa C39).mono ?_
 clear C39
 rintro _ w1 ⟨rfl,rv,hT1,hf1,hb1⟩
 obtain⟨A,c,hrv⟩:=Ex hT1.own
 replace hrv:rv= .slice A n c:=by
  rw[Aa Hn]
  simpa [TT.packed] using hrv
 subst hrv
 have HV:Hid (Holds w1 T.t [.map (some T.m), .slice A n c, .int .u64 T.last]):=Ab hT1.tab
 have HT1:=Ab hT1
 have HF1:=Ab hf1
 have HB1:=Ab hb1
 have HAP:=Ab (TT.apart hT1.nd)
 have htl:Hid (T.t<w1.heap.size):=Ab (hT1.lt T.t (by simp[TT.blocks,TT.packed]))
 clear hT1 hf1 hb1
 go_wp2_with (first|go_skip|((with_reducible show wpList ..);first|(refine rd rfl (Ad 191 isAgg191 rfl rfl (Aa HV) rfl) ?_)|((refine rdw (by rfl) (ex_mm rfl rfl) ?_);obtain⟨M,hM⟩: ∃M,M=w1.heap.size:=⟨_,rfl⟩;obtain⟨w2,hw2⟩: ∃w2,w2=w1.alloc (.map #[] 0):=⟨_,rfl⟩;have HM:=Ab hM;have hb2:Below w1.heap.size w1 w2:=(by rw[hw2];exact(Below.refl _ _).alloc (Nat.le_refl _) _);have HMP:Hid (MapIs w2 M 0 0 (fnd (T.live.take 0))):=Ab (by rw[hw2,hM];exact MapIs.made w1);rw[←hw2,←hM];replace HV:=Ab ((Aa HV).block (hb2.block T.t (Aa htl)));have HB2:=Ab hb2;clear hw2 hM hb2;simp only[nn])|((with_reducible apply stx (t:=190) (b:=T.t) (p:=0) (cs:= [.map (some T.m), .slice A n c, .int .u64 T.last]) (vs:= [.map (some M)]) (v:= .map (some M)));(case hw|ho|hx|hy=>rfl);(case hv=>exact rfl);(case h1=>exact(by simp[Value.oneCell']));(case hi=>exact siz69);(case hH=>exact Aa HV);(case hp=>exact(by simp));(obtain⟨w3,hw3⟩: ∃w3,w3=w2.setCells T.t 0 [.map (some M)]:=⟨_,rfl⟩);(have HC:Hid (CPk T w1 w3 A n c M 0):=Ab ⟨(by rw[hw3];exact(Aa HV).put 0 [.map (some M)] (by simp)),(by rw[hw3];exact(Aa HMP).block (Gj _ _ _ _ _ (by have h1:=Aa HM;have h2:=Aa htl;omega))),(by rw[hw3];exact(Fr.of_below (Aa HB2) [T.t]).trans (Fr.setCells _ _ _ _) (fun b hb=> .inl hb))⟩);rw[←hw3];replace HV:=Ab (Aa HC).tab;clear hw3;simp only[nn])))
 clear HV HMP HB2
 go_loopg [3,20] n (fun gm s3 s20 wr=> ∃j:Nat,s20= .int .i64 j/\j<=n/\n - j<=gm/\Hid (CPk T w1 wr A n c M j))
 case atStart=>exact⟨0,rfl,by omega,by omega,HC⟩
 case round=>
  obtain⟨j,rfl,hj,hg,HR⟩:=hrel
  by_cases hjl:j<n
  ·have hjz:(j:Int)<n:=by omega
   have hjr:j<T.live.length:=by have:=Aa Hn;omega
   have hown:w1.ownsRow 0 203 1 (.slice A (T.live.map (·.b)).length c) (T.live.map (·.b)).length (Pq (T.live.map (·.b))):=by
    have h1:=(Aa HT1).own
    have e:=Aa Hn
    unfold OwnP TT.packed at h1
    simp only at h1
    rw[List.length_map,←e] at h1 ⊢
    exact h1
   obtain⟨g,rfl, -,hgl⟩:=Zc9 hown (by simp;omega)
   have hgt:g≠T.t:=((Aa HAP).tv g rfl).1
   have HG:Hid (Holds wr g (Pq (T.live.map (·.b)))):=Ab ((ZbA hown).block ((Aa HR).fr.block g hgl (by simpa using hgt)))
   obtain⟨r,hr⟩: ∃r,r=T.live[j]:=⟨_,rfl⟩
   have hrm:r∈T.live:=hr▸List.getElem_mem hjr
   have HP:Hid ((Pq (T.live.map (·.b)))[0+j]? =some (.pointer (some ⟨r.b,0,none⟩))):=Ab (by rw[hr];exact Zc7 T.live j hjr)
   have hrt:r.b≠T.t:=fun e=>(Aa HAP).tr (e▸List.mem_map.2 ⟨r,hrm,rfl⟩)
   have hrl:=((Aa HT1).rows r hrm).lt (by simp[Ed])
   have HRr:Hid (Holds wr r.b r.cs):=Ab (((Aa HT1).rows r hrm).block ((Aa HR).fr.block r.b hrl (by simpa using hrt)))
   have HOK:=Ab (good_ok ((Aa HT).good r hrm))
   have HFN:=Ab (fnd_take (Aa HT).keys hjr)
   rw[←hr] at HFN
   have HMr:Hid (T.t≠M/\r.b≠M):=Ab ⟨by have h1:=Aa HM;have h2:=Aa htl;omega,by have h1:=Aa HM;omega⟩
   have hjM:Hid (j<maxLen):=Ab (by unfold maxLen;omega)
   clear hr hrm hrt hrl hown hgt hgl
   go_wp2_with (first|go_skip|((with_reducible show wpList ..);first|(refine rd rfl (Uc (off:=0) j rfl rfl rfl hjl) ?_)|(refine rd rfl (Ad 203 isAgg203 rfl rfl (Aa HG) (Aa HP)) ?_)))
   refine wp_region_held_drew (P:=prog) (S:=fun X=>Holds X T.t [.map (some M), .slice (some ⟨g,0,none⟩) n c, .int .u64 T.last]/\Holds X r.b r.cs) (by kernel_rfl) ⟨(Aa HR).tab.block rfl,(Aa HRr).block rfl⟩ (fun hS0=> ?_)
   refine y0 0 (some 24) (.pointer (some ⟨T.t,0,none⟩)) rfl hS0 ?_
   refine y0 1 (some 25) (.pointer (some ⟨T.t,0,none⟩)) rfl hS0 ?_
   refine y0 2 (some 26) (.pointer (some ⟨T.t,0,none⟩)) rfl hS0 ?_
   refine y1 3 (some 27) (.map (some M)) rfl (fun X hX=>Ad 190 isAgg190 rfl rfl (hX.1) rfl) hS0 ?_
   refine y0 4 (some 28) (.pointer (some ⟨r.b,0,none⟩)) rfl hS0 ?_
   refine y0 5 (some 29) (.pointer (some ⟨r.b,0,none⟩)) rfl hS0 ?_
   refine y0 6 (some 30) (.pointer (some ⟨r.b,0,none⟩)) rfl hS0 ?_
   refine y0 7 (some 31) (.pointer (some ⟨r.b,0,none⟩)) rfl hS0 ?_
   refine y1 8 (some 32) (r.k.agg) rfl (fun X hX=>Af (vs:=r.k.cs) 37 2 Jh Kh rfl rfl (hX.2) rfl rfl) hS0 ?_
   refine y0 9 (some 33) (.pointer (some ⟨r.b,0,none⟩)) rfl hS0 ?_
   refine wpAnyH_ready (rs:= [10]) (by kernel_rfl) (by simp) (gupd (r:=r.b) 10 rfl rfl rfl rfl rfl ((Aa HR).map.block rfl) (Aa HOK) (Aa hjM) (fun X hX=>⟨hS0.1.block (hX.block T.t (hS0.1.lt (by simp)) (by simpa using (Aa HMr).1)),hS0.2.block (hX.block r.b (hS0.2.lt (by simp[Ed])) (by simpa using (Aa HMr).2))⟩) ?_ AllReadyH.nil)
   intro X hM6 hX6
   have HR6:Hid (CPk T w1 X (some ⟨g,0,none⟩) n c M (j+1)):=Ab ⟨hS0.1.block (hX6.block T.t (hS0.1.lt (by simp)) (by simpa using (Aa HMr).1)),(by have h1:=hM6;rw[(Aa HFN).1,(Aa HFN).2] at h1;exact h1),((Aa HR).fr.drew.trans hX6 (fun b hb=>Or.inr (by have h1:=Aa HM;obtain rfl:b=M:=(by simpa using hb);omega)))⟩
   replace hS0:=And.intro (hS0.1.block (hX6.block T.t (hS0.1.lt (by simp)) (by simpa using (Aa HMr).1))) (hS0.2.block (hX6.block r.b (hS0.2.lt (by simp[Ed])) (by simpa using (Aa HMr).2)))
   clear hM6 hX6
   simp only[nn]
   refine dn ?_
   try simp only[nn]
   clear hS0
   go_wp2
   go_roundg (n - (j+1))
   case measure=>omega
   case rel=>exact⟨j+1,by go_num,by omega,Nat.le_refl _,HR6⟩
  ·have hjz: ¬(j:Int)<n:=by omega
   have hjn:j=n:=by omega
   subst hjn
   go_wp2
   go_end0
   have hC:=Aa HR
   have hTT:=Aa HT1
   have hap:=Aa HAP
   have e:=Aa Hn
   have htk:T.live.take j=T.live:=by rw[e,List.take_length]
   have hmp:=hC.map
   rw[htk] at hmp
   have hM:=Aa HM
   have hs1:=(Aa HF1).size
   have hlt:=(Aa HT).lt
   have hrv: ∀b,(Value.slice A j c).ownBlock=some b->(T.rv.ownBlock=some b∨b ∉ T.blocks)/\b≠M:=fun b hb=>by
    refine⟨((Aa HB1) b hb).imp id (fun h1 hm=>by have:=hlt b hm;omega), ?_⟩
    have:=World.ownsRow.lt hTT.own b hb
    omega
   refine⟨rfl,M, .slice A j c,TT.Is.pack (Aa HT) hC.tab ?_ ?_ (fun r hr=> ?_) (.inr (fun hm=>by have:=hlt M hm;omega)) hrv, ?_, ?_⟩
   ·have h1:=hmp.mono (Aa hnl)
    rw[←e]
    exact h1
   ·exact hTT.own.block (fun b hb=>hC.fr.block b (World.ownsRow.lt hTT.own b hb).2 (fun hm=>(hap.tv b hb).1 (by show b=T.t;simpa using hm)))
   ·have h2:=hTT.rows r hr
    exact h2.block (hC.fr.block r.b (h2.lt (by simp[Ed])) (by simpa using fun e:r.b=T.t=>hap.tr (e▸List.mem_map.2 ⟨r,hr,rfl⟩)))
   ·exact(Aa HF1).trans hC.fr (fun b hb=> .inl hb)
   ·intro b hb
    simp only[TT.blocks,TT.packed,List.mem_cons,List.mem_append] at hb ⊢
    rcases hb with h1|h1|h1|h1
    ·exact .inl (.inl h1)
    ·exact .inr (by omega)
    ·rcases (Aa HB1) b (by simpa using h1) with h2|h2
     ·exact .inl (.inr (.inr (.inl (by rw[h2];simp))))
     ·exact .inr h2
    ·exact .inl (.inr (.inr (.inr (Nq T b h1))))
def Vd (b:Nat) (q:RR):RR:=if q.b=b then ZaH q else q
theorem Vc (b:Nat) (q:RR):(Vd b q).b=q.b/\(Vd b q).n=q.n:=by
 unfold Vd ZaH
 split<;>exact⟨rfl,rfl⟩
def TT.left (T:TT) (b:Nat):TT:={T with rows:=T.rows.map (Vd b)}
theorem TT.left_live (T:TT) (b:Nat):(T.left b).live=T.live.filter (fun q=>decide (q.b≠b)):=by
 unfold TT.left TT.live
 simp only
 induction T.rows with
 |nil=>rfl
 |cons q l ih=>
  simp only[List.map_cons,List.filter_cons]
  by_cases h:q.b=b
  ·rw[show Vd b q=ZaH q from if_pos h]
   cases hg:q.gone
   ·rw[if_neg (by simp[ZaH]),if_pos (by simp),List.filter_cons,if_neg (by simp[h])]
    exact ih
   ·rw[if_neg (by simp[ZaH]),if_neg (by simp)]
    exact ih
  ·rw[show Vd b q=q from if_neg h]
   cases hg:q.gone
   ·rw[if_pos (by simp),if_pos (by simp),List.filter_cons,if_pos (by simp[h]),ih]
   ·rw[if_neg (by simp),if_neg (by simp)]
    exact ih
theorem ZaM {α:Type} {p q:α->Bool}: ∀{l:List α},(∀x∈l,p x=q x)->l.find? p=l.find? q
 | [],_=>rfl
 |x::l,h=>by
  rw[List.find?_cons,List.find?_cons,h x (by simp),ZaM (fun y hy=>h y (by simp[hy]))]
theorem Zbv {T:TT} (h:TApart T):T.rows.Pairwise (fun a b=>a.b≠b.b):=by
 have:=h.rr
 unfold List.Nodup at this
 rwa [List.pairwise_map] at this
theorem Px {T:TT} {r:RR} (h:r∈T.live):r∈T.rows:=(List.mem_filter.1 h).1
theorem ZbW {T:TT} {w:World} (hT:T.Is w) {r q:RR} (hr:r∈T.live) (hq:q∈T.live):q.b=r.b↔q.k=r.k:=by
 constructor
 ·intro e
  rw[Zan (f:=RR.b) (Zbv (TT.apart hT.nd)) (Px hq) (Px hr) e]
 ·intro e
  rw[Zan (f:=RR.k) hT.keys hq hr e]
theorem TT.left_live' {T:TT} {w:World} (hT:T.Is w) {r:RR} (hr:r∈T.live):(T.left r.b).live=T.live.filter (fun q=>decide (q.k≠r.k)):=by
 rw[TT.left_live]
 apply List.filter_congr
 intro q hq
 have:=ZbW hT hr hq
 simp[this]
theorem TT.left_find {T:TT} {w:World} (hT:T.Is w) {r:RR} (hr:r∈T.live):(fun q=>((T.left r.b).find q).map (·.b))=Rg (fun q=>(T.find q).map (·.b)) r.k none:=by
 funext q
 unfold TT.find
 rw[TT.left_live' hT hr,List.find?_filter]
 by_cases e:q=r.k
 ·subst e
  rw[No]
  have:T.live.find? (fun a=>decide (decide (a.k≠r.k)=true/\decide (a.k=r.k)=true))=none:=by
   rw[List.find?_eq_none]
   intro x _
   simp
  rw[this]
  rfl
 ·rw[Mg e]
  congr 1
  apply ZaM
  intro x _
  by_cases e2:x.k=q
  ·have:x.k≠r.k:=fun e3=>e (e2▸e3)
   simp[e2]
   exact fun e3=>e e3
  ·simp[e2]
theorem TT.left_len {T:TT} {w:World} (hT:T.Is w) {r:RR} (hr:r∈T.live):(T.left r.b).live.length=T.live.length - 1:=by
 rw[TT.left_live' hT hr]
 obtain⟨a,b,e⟩:=List.append_of_mem hr
 have hp:=hT.keys
 rw[e] at hp ⊢
 have h1:=List.pairwise_append.1 hp
 have h2:=List.pairwise_cons.1 h1.2.1
 have ha:a.filter (fun q=>decide (q.k≠r.k))=a:=by
  rw[List.filter_eq_self]
  intro x hx
  simpa using h1.2.2 x hx r (by simp)
 have hb:b.filter (fun q=>decide (q.k≠r.k))=b:=by
  rw[List.filter_eq_self]
  intro x hx
  simpa using (h2.1 x hx).symm
 rw[List.filter_append,List.filter_cons,ha,hb]
 simp
theorem TT.Is.left {T:TT} {w X:World} {r:RR} (hT:T.Is w) (hr:r∈T.live) (htab:Holds X T.t T.cs) (hmap:MapIs X T.m T.last (T.live.length - 1) (Rg (fun k=>(T.find k).map (·.b)) r.k none)) (hown:OwnP X T.rv (T.rows.map (·.b))) (hrest: ∀q∈T.rows,q.b≠r.b->Holds X q.b q.cs) (hg:Holds X r.b (ZaH r).cs):(T.left r.b).Is X:=by
 have hbs:(T.left r.b).rows.map (·.b)=T.rows.map (·.b):=by
  unfold TT.left
  simp only[List.map_map]
  apply List.map_congr_left
  intro q _
  exact(Vc r.b q).1
 have hsub: ∀q∈(T.left r.b).live,q∈T.live:=fun q hq=>by
  rw[TT.left_live] at hq
  exact(List.mem_filter.1 hq).1
 refine⟨htab, ?_, ?_, ?_, ?_, ?_, ?_, ?_,fun q hq=>hT.good q (hsub q hq)⟩
 ·rw[TT.left_find hT hr,TT.left_len hT hr]
  exact hmap
 ·rw[hbs]
  exact hown
 ·intro q hq
  obtain⟨p,hp,rfl⟩:=List.mem_map.1 hq
  by_cases e:p.b=r.b
  ·have:=Zan (f:=RR.b) (Zbv (TT.apart hT.nd)) hp (Px hr) e
   subst this
   unfold Vd
   rw[if_pos rfl]
   exact hg
  ·unfold Vd
   rw[if_neg e]
   exact hrest p hp e
 ·have h:=hT.nd
  unfold TT.blocks at h ⊢
  rw[hbs]
  exact h
 ·show (T.rows.map (Vd r.b)).Pairwise _
  rw[List.pairwise_map]
  refine hT.rise.imp ?_
  intro a b h
  rw[(Vc r.b a).2,(Vc r.b b).2]
  exact h
 ·intro q hq
  obtain⟨p,hp,rfl⟩:=List.mem_map.1 hq
  rw[(Vc r.b p).2]
  exact hT.num p hp
 ·rw[TT.left_live]
  exact hT.keys.sublist List.filter_sublist
theorem TT.left_blocks (T:TT) (b:Nat):(T.left b).blocks=T.blocks:=by
 unfold TT.blocks TT.left
 simp only[List.map_map]
 congr 3
 apply List.map_congr_left
 intro q _
 exact(Vc b q).1
theorem gdel {md:Region.Mode} {ops:Array Oper} {Q:Exit->Act->World->Prop} {S:World->Prop} {w:World} {fuel:Nat} {listed:Array Bool} {a:Act} {o:Oper} (i:Nat) {m x:Operand} {b n sz:Nat} {F:KK->Option Nat} {k:KK} {rs:List Nat} (hi:ops[i]? =some o) (hd:o.dst=none) (hw:Region.wanted o (yielded ops a.tmps)=true)
  (ho:o.op= .call {callee:= .builtin .delete,args:= #[m,x],argTypes:= #[190,37]}) (hm:a.eval m= .map (some b)) (hx:a.eval x=k.agg) (h:MapIs w b n sz F) (hk:OkK k) (hon: ∀X,Fr w X [b]->S X)
  (hh: ∀X,MapIs X b n (if (F k).isSome then sz - 1 else sz) (Rg F k none)->Fr w X [b]->wpAnyH prog md ops Q S fuel (listed.setIfInBounds i true) (a.put none (.tuple #[])) X) (hs:AllReadyH prog md ops Q S fuel listed a w rs):AllReadyH prog md ops Q S fuel listed a w (i::rs):=by
 obtain⟨X,h1,h2,h3⟩:=h.drop hk o.type
 refine Qb i none hi hd hw (V:= .tuple #[]) (X:=X) ?_ (hon X (Fr.grown h3.grown)) (hh X h2 (Fr.grown h3.grown)) hs
 simp[execOp,ho,resolve,invoke,builtin,hm,hx,h1,Result.andThen]
theorem ZaY (T:TT) (k:KK) (w:World) (hT:T.Is w) (hk:OkK k) (hl:T.last<100000):Calls prog 211 #[.pointer (some ⟨T.t,0,none⟩),k.agg] w fun e w'=>e= .returned (.bool (T.find k).isSome)/\ ∃T':TT,T'.Is w'/\T'.t=T.t/\T'.last=T.last/\Fr w w' T.blocks/\(∀b∈T'.blocks,b∈T.blocks∨w.heap.size<=b)/\T'.live=T.live.filter (fun q=>decide (q.k≠k)):=by
 cases hf:T.find k with
 |none=>
  have hlv:T.live.filter (fun q=>decide (q.k≠k))=T.live:=by
   rw[List.filter_eq_self]
   intro q hq
   simpa using TT.find_none hf q hq
  rw[hlv]
  clear hlv
  have HT:=Ab (hT.on ((Below.refl _ _).alloc (Nat.le_refl _) (Obj.cells k.cs.toArray 37)))
  have LL:=Ab ((Hq.nil w T.blocks).new k.cs 37 (Nat.succ_pos _))
  have HL:=Ab hT.lt
  clear hT
  rw[show k.agg= .agg k.cs.toArray from rfl]
  go_enter func211,ntmps211
  go_wp2
  refine wp_region_held_drew (P:=prog) (S:=fun X=>T.Is X/\Hq w X T.blocks [(w.heap.size,k.cs)]) (by kernel_rfl) ⟨(Aa HT).drew,(Aa LL).drew⟩ (fun hS0=> ?_)
  refine y0 0 (some 8) (.pointer (some ⟨T.t,0,none⟩)) rfl hS0 ?_
  refine y0 1 (some 9) (.pointer (some ⟨T.t,0,none⟩)) rfl hS0 ?_
  refine y0 2 (some 10) (.pointer (some ⟨T.t,0,none⟩)) rfl hS0 ?_
  refine y1 3 (some 11) (.map (some T.m)) rfl (fun X hX=>Ad 190 isAgg190 rfl rfl (hX.1.tab) rfl) hS0 ?_
  refine y1 4 (some 12) (k.agg) rfl (fun X hX=>Af (vs:=k.cs) 37 2 Jh Kh rfl rfl (hX.2.get 0 rfl) rfl rfl) hS0 ?_
  refine y1 5 (some 13) (.tuple #[pv (none), .bool false]) rfl (fun X hX=>Ou (r:=none) rfl rfl rfl hX.1.map hk (by rw[hf];rfl)) hS0 ?_
  refine y0 6 (some 7) (.tuple #[pv (none), .bool false]) rfl hS0 ?_
  refine y0 7 (some 14) (pv (none)) rfl hS0 ?_
  refine y0 9 (some 5) (pv (none)) rfl hS0 ?_
  refine y0 8 (some 15) (.bool false) rfl hS0 ?_
  refine y0 10 (some 6) (.bool false) rfl hS0 ?_
  refine dn ?_
  try simp only[nn]
  replace HT:=Ab hS0.1
  replace LL:=Ab hS0.2
  clear hS0
  go_wp2
  go_ret
  exact⟨rfl,T,Aa HT,rfl,rfl,(Aa LL).fr,fun b hb=> .inl hb,rfl⟩
 |some r=>
  have hrl:r∈T.live:=List.mem_of_find?_eq_some hf
  obtain⟨-,hgn,hrk⟩:=TT.find_mem hf
  have HRL:=Ab (And.intro hrl hrk)
  have H2:Hid (∀X,(T.left r.b).Is X->Calls prog 220 #[.pointer (some ⟨T.t,0,none⟩)] X fun e w'=>e= .returned (.int .i64 (((T.left r.b).rows.length - (T.left r.b).live.length:Nat):Int))/\Below X.heap.size X w'):=Ab (fun X hX=>gaps38 (T.left r.b) X hX (by have:=hX.len;have e:(T.left r.b).last=T.last:=rfl;omega))
  have H3:Hid (∀X,(T.left r.b).Is X->Calls prog 130 #[.pointer (some ⟨T.t,0,none⟩)] X fun e w'=>e= .returned (.int .i64 (T.left r.b).live.length)/\w'=X):=Ab (fun X hX=>len30 (T.left r.b) X hX)
  have H4:Hid (∀X,(T.left r.b).Is X->Calls prog 221 #[.pointer (some ⟨T.t,0,none⟩)] X fun e w'=>e= .returned (.tuple #[])/\ ∃m rv,((T.left r.b).packed m rv).Is w'/\Fr X w' [T.t]/\(∀b∈((T.left r.b).packed m rv).blocks,b∈(T.left r.b).blocks∨X.heap.size<=b)):=Ab (fun X hX=>Zgu (T.left r.b) X hX hl)
  have HLV:Hid ((T.left r.b).live=T.live.filter (fun q=>decide (q.k≠k))):=Ab (by rw[TT.left_live' hT hrl,hrk])
  have HAP:=Ab (TT.apart hT.nd)
  have hk2:=Ab hk
  have hf2:=Ab hf
  clear hrl hrk hgn hl
  have HT:=Ab (hT.on ((Below.refl _ _).alloc (Nat.le_refl _) (Obj.cells k.cs.toArray 37)))
  have LL:=Ab ((Hq.nil w T.blocks).new k.cs 37 (Nat.succ_pos _))
  have HL:=Ab hT.lt
  clear hT
  rw[show k.agg= .agg k.cs.toArray from rfl]
  go_enter func211,ntmps211
  go_wp2
  refine wp_region_held_drew (P:=prog) (S:=fun X=>T.Is X/\Hq w X T.blocks [(w.heap.size,k.cs)]) (by kernel_rfl) ⟨(Aa HT).drew,(Aa LL).drew⟩ (fun hS0=> ?_)
  refine y0 0 (some 8) (.pointer (some ⟨T.t,0,none⟩)) rfl hS0 ?_
  refine y0 1 (some 9) (.pointer (some ⟨T.t,0,none⟩)) rfl hS0 ?_
  refine y0 2 (some 10) (.pointer (some ⟨T.t,0,none⟩)) rfl hS0 ?_
  refine y1 3 (some 11) (.map (some T.m)) rfl (fun X hX=>Ad 190 isAgg190 rfl rfl (hX.1.tab) rfl) hS0 ?_
  refine y1 4 (some 12) (k.agg) rfl (fun X hX=>Af (vs:=k.cs) 37 2 Jh Kh rfl rfl (hX.2.get 0 rfl) rfl rfl) hS0 ?_
  refine y1 5 (some 13) (.tuple #[pv (some r.b), .bool true]) rfl (fun X hX=>Ou (r:=some r.b) rfl rfl rfl hX.1.map hk (by rw[hf];rfl)) hS0 ?_
  refine y0 6 (some 7) (.tuple #[pv (some r.b), .bool true]) rfl hS0 ?_
  refine y0 7 (some 14) (pv (some r.b)) rfl hS0 ?_
  refine y0 9 (some 5) (pv (some r.b)) rfl hS0 ?_
  refine y0 8 (some 15) (.bool true) rfl hS0 ?_
  refine y0 10 (some 6) (.bool true) rfl hS0 ?_
  refine dn ?_
  try simp only[nn]
  replace HT:=Ab hS0.1
  replace LL:=Ab hS0.2
  clear hS0
  unfold pv
  go_wp2
  refine wp_region_held_drew (P:=prog) (S:=fun X=>Holds X T.t T.cs/\Hq w X T.blocks [(w.heap.size,k.cs)]) (by kernel_rfl) ⟨(Aa HT).tab.block rfl,(Aa LL).drew⟩ (fun hS0=> ?_)
  refine y0 0 (some 18) (.pointer (some ⟨T.t,0,none⟩)) rfl hS0 ?_
  refine y0 1 (some 19) (.pointer (some ⟨T.t,0,none⟩)) rfl hS0 ?_
  refine y0 2 (some 20) (.pointer (some ⟨T.t,0,none⟩)) rfl hS0 ?_
  refine y1 3 (some 21) (.map (some T.m)) rfl (fun X hX=>Ad 190 isAgg190 rfl rfl (hX.1) rfl) hS0 ?_
  refine y1 4 (some 22) (k.agg) rfl (fun X hX=>Af (vs:=k.cs) 37 2 Jh Kh rfl rfl (hX.2.get 0 rfl) rfl rfl) hS0 ?_
  have hmt:T.t ∉ [T.m]:=by simpa using (Aa HAP).tm
  have hkm:w.heap.size≠T.m:=by have:=(Aa HL) T.m (by simp[TT.blocks]);omega
  have hmb: ∀b∈ [T.m],b∈T.blocks∨w.heap.size<=b:=fun b hb=> .inl (by obtain rfl:b=T.m:=(by simpa using hb);simp[TT.blocks])
  refine wpAnyH_ready (rs:= [5]) (by kernel_rfl) (by simp) (gdel 5 rfl (by kernel_rfl) (by kernel_rfl) rfl rfl rfl (Aa HT).drew.map (Aa hk2) (fun X hX=>⟨hS0.1.block (hX.block T.t (hS0.1.lt (by simp[TT.cs])) hmt),hS0.2.step hX hmb (fun q hq=>by obtain rfl:q=(w.heap.size,k.cs):=(by simpa using hq);simpa using hkm)⟩) ?_ AllReadyH.nil)
  intro X hM hX
  have hTd:=(Aa HT).drew
  have hLX:=hS0.2.step hX hmb (fun q hq=>by obtain rfl:q=(w.heap.size,k.cs):=(by simpa using hq);simpa using hkm)
  have hm3:MapIs X T.m T.last (T.live.length - 1) (Rg (fun q=>(T.find q).map (·.b)) k none):=by
   have e:=Aa hf2
   have:=hM
   simp only[e,Option.map_some,Option.isSome_some,if_true] at this
   exact this
  have hap:=Aa HAP
  have hbl: ∀b,b≠T.m->b<w.heap.size->X.heap[b]? =(World.drew _).heap[b]? :=fun b hb hlt=>hX.block b (by have:=hS0.2.fr.size;omega) (by simpa using hb)
  have HOWN:Hid (OwnP X T.rv (T.rows.map (·.b))):=Ab (hTd.own.block (fun g hg=>hX.block g (World.ownsRow.lt hTd.own g hg).2 (fun hm=>(hap.tv g hg).2.1 (by simpa using hm))))
  have HROW:Hid (∀q∈T.rows,Holds X q.b q.cs):=Ab (fun q hq=>(hTd.rows q hq).block (hX.block q.b ((hTd.rows q hq).lt (by simp[Ed])) (fun hm=>hap.mr (by obtain h1:q.b=T.m:=(by simpa using hm);exact h1▸List.mem_map.2 ⟨q,hq,rfl⟩))))
  have HTAB:Hid (Holds X T.t T.cs):=Ab (hS0.1.block (hX.block T.t (hS0.1.lt (by simp[TT.cs])) hmt))
  have HM3:=Ab hm3
  have hS1:Holds X T.t T.cs/\Hq w X T.blocks [(w.heap.size,k.cs)]:=⟨Aa HTAB,hLX⟩
  replace LL:=Ab hLX
  clear hS0 hM hX hTd hLX hm3 hbl hmt hkm hmb
  simp only[nn]
  refine dn ?_
  try simp only[nn]
  clear hS1
  go_wp2_with fail
  refine(leave37 r X ((Aa HROW) r (Px (Aa HRL).1))).mono ?_
  rintro _ w3 ⟨rfl,hg3,hf3⟩
  have hrm:r.b∈T.rows.map (·.b):=List.mem_map.2 ⟨r,Px (Aa HRL).1,rfl⟩
  have hT2:(T.left r.b).Is w3:=by
   have e:=(Aa HRL).2
   refine TT.Is.left (Aa HT) (Aa HRL).1 ((Aa HTAB).block (hf3.block T.t ((Aa HTAB).lt (by simp[TT.cs])) ?_)) ?_ ((Aa HOWN).block (fun g hg=>hf3.block g (World.ownsRow.lt (Aa HOWN) g hg).2 ?_)) (fun q hq hne=>((Aa HROW) q hq).block (hf3.block q.b (((Aa HROW) q hq).lt (by simp[Ed])) (by simpa using hne))) hg3
   ·intro hm
    exact hap.tr (by obtain h1:T.t=r.b:=(by simpa using hm);exact h1▸hrm)
   ·rw[e]
    exact(Aa HM3).block (hf3.block T.m (Aa HM3).lt (fun hm=>hap.mr (by obtain h1:T.m=r.b:=(by simpa using hm);exact h1▸hrm)))
   ·intro hm
    exact(hap.tv g hg).2.2 (by obtain h1:g=r.b:=(by simpa using hm);exact h1▸hrm)
  have HFR:Hid (Fr w w3 T.blocks):=Ab ((Aa LL).fr.trans hf3 (fun b hb=> .inl (by
   obtain rfl:b=r.b:=by simpa using hb
   unfold TT.blocks
   simp only[List.mem_cons,List.mem_append]
   exact .inr (.inr (.inr hrm)))))
  have HT2:=Ab hT2
  clear hT2 hg3 hf3 hrm hap HOWN HROW HTAB HM3 LL
  go_wp2_with fail
  refine((Aa H2) w3 (Aa HT2)).mono ?_
  rintro _ w4 ⟨rfl,hb⟩
  replace HFR:=Ab ((Aa HFR).on hb)
  replace HT2:=Ab ((Aa HT2).on hb)
  clear hb
  go_wp2_with fail
  refine((Aa H3) w4 (Aa HT2)).mono ?_
  rintro _ x4 ⟨rfl,e4⟩
  rw[e4]
  clear e4 x4
  obtain⟨g1,hg1⟩: ∃g1,g1=(T.left r.b).rows.length - (T.left r.b).live.length:=⟨_,rfl⟩
  obtain⟨g2,hg2⟩: ∃g2,g2=(T.left r.b).live.length:=⟨_,rfl⟩
  rw[←hg1,←hg2]
  clear hg1 hg2
  by_cases hgt:g2<g1
  ·have hgz:(g2:Int)<g1:=by omega
   go_wp2_with fail
   refine((Aa H4) w4 (Aa HT2)).mono ?_
   rintro _ w5 ⟨rfl,m,rv,hT5,hf5,hb5⟩
   have HF5:=Ab hf5
   have HT5:=Ab hT5
   have HB5:=Ab hb5
   clear hf5 hT5 hb5
   go_wp2
   go_ret
   refine⟨rfl,_,Aa HT5,rfl,rfl,(Aa HFR).trans (Aa HF5) (fun b hb=> .inl (by obtain rfl:b=T.t:=(by simpa using hb);simp[TT.blocks])),fun b hb=> ?_, ?_⟩
   ·rcases (Aa HB5) b hb with h1|h1
    ·rw[TT.left_blocks] at h1
     exact .inl h1
    ·exact .inr (Nat.le_trans (Aa HFR).size h1)
   ·rw[TT.packed_live]
    exact Aa HLV
  ·have hgz: ¬(g2:Int)<g1:=by omega
   go_wp2
   go_ret
   refine⟨rfl,_,Aa HT2,rfl,rfl,Aa HFR,fun b hb=> ?_,Aa HLV⟩
   rw[TT.left_blocks] at hb
   exact .inl hb
end
section
open Go Go.Proofs Go.Maps Go.RowKit FM Tryz
theorem n1 {α:Type} (l:List α) (i:Nat) (a:α):l.toArray.setIfInBounds i a=(l.set i a).toArray:=by simp
theorem n2 {α:Type} (x:α) (xs:List α) (i:Nat) (a:α):(x::xs).set (i+1) a=x::xs.set i a:=rfl
theorem n3 {α:Type} (x:α) (xs:List α) (a:α):(x::xs).set 0 a=a::xs:=rfl
theorem Lt {fn:Func} {R:Ending->World->Prop} {a:Act} {w:World} {b r T n:Nat} {cs:List Value} (hT: ∃d,prog.underlying T=some d/\d.isRow=true) (hn:(prog.info? T).map (·.size)=some n) (hr:fn.results= #[.cell r T]) (hdf:a.defers= [])
  (hx:a.tmps.getD r undef= .pointer (some ⟨b,0,none⟩)) (hc:Holds w b cs) (hcs:cs.length=n) (h:R (.returned (.agg cs.toArray)) w):bodyPost prog fn R .ret a w:=by
 obtain⟨t,hu,hd⟩:=hT
 have h0:=hc.mid 0 n
 rw[List.drop_zero,List.take_of_length_le (by omega)] at h0
 have hl:=run_loadVar_mid (P:=prog) w b 0 T _ t h0 hu hd (by rw[hn,hcs])
 refine⟨hdf,_, ?_,h⟩
 simp only[Array.getD_eq_getD_getElem?] at hx
 unfold results
 simp[hr,hx,hl,asAddr]
 try rfl
theorem Bp {o:Oper} {a:Act} {w:World} {m:Operand} {A:Option Addr} {n c:Nat} (t e:TypeId) (ht:prog.underlying t=some (.slice e)) (ho:o.op= .call {callee:= .builtin .len,args:= #[m],argTypes:= #[t]}) (hm:a.eval m= .slice A n c):(execOp a.eval o).run prog w= .ok (.value (.int .i64 (n:Nat))) w:=by
 simp[execOp,ho,resolve,invoke,builtin,hm,Builtin.len_,Result.andThen,goInt,ht,run_underlying ht]
theorem Mo {o:Oper} {a:Act} {w:World} {x y:Operand} {n m:Int} (ho:o.op= .binOp .eql 3 x y 3) (hx:a.eval x= .int .i64 n) (hc:a.eval y= .int .i64 m) (h:n=m):(execOp a.eval o).run prog w= .ok (.value (.bool true)) w:=by
 unfold execOp
 simp only[ho,hx,hc]
 simp[go_sem,eqGuard,h]
theorem Dm {w X:World} {b p:Nat} {cs:List Value} (h:w.rangeAt b p cs) (hb:b<w.heap.size) (hf:Fr w X []):X.rangeAt b p cs:=fun j v hv=>by
 have e:=h j v hv
 have h1:=hf.block b hb (by simp)
 unfold World.cell? at e ⊢
 dsimp only at e ⊢
 rw[h1]
 exact e
theorem Ma {o:Oper} {a:Act} {w:World} {x y:Operand} {n m:Int} (ho:o.op= .binOp .eql 3 x y 3) (hx:a.eval x= .int .i64 n) (hc:a.eval y= .int .i64 m) (h:n≠m):(execOp a.eval o).run prog w= .ok (.value (.bool false)) w:=by
 unfold execOp
 simp only[ho,hx,hc]
 simp[go_sem,eqGuard,h]
theorem Qc {α:Type} (f:α->List Value) (k:Nat) (hk: ∀a,(f a).length=k): ∀l:List α,(l.flatMap f).length=l.length * k
 | []=>by simp
 |d::l=>by
  rw[List.flatMap_cons,List.length_append,hk,Qc f k hk l,List.length_cons,Nat.add_mul,Nat.one_mul,Nat.add_comm]
theorem Vh {α:Type} (f:α->List Value) (k:Nat) (hk: ∀a,(f a).length=k): ∀(l:List α) (j t:Nat) (hj:j<l.length),t<k->(l.flatMap f)[j * k+t]? =(f l[j])[t]?
 | [],j,t,hj,_=>by simp at hj
 |d::l,0,t,hj,ht=>by
  rw[List.flatMap_cons,Nat.zero_mul,Nat.zero_add,List.getElem?_append_left (by rw[hk];exact ht)]
  simp
 |d::l,j+1,t,hj,ht=>by
  have e:(j+1) * k+t - k=j * k+t:=by rw[Nat.add_mul];omega
  rw[List.flatMap_cons,List.getElem?_append_right (by rw[hk,Nat.add_mul];omega),hk,e,Vh f k hk l j t (by simpa using hj) ht]
  simp
theorem On {α:Type} {f:α->List Value} {k:Nat} (hk: ∀a,(f a).length=k) {W:World} {base T n:Nat} {v:Value} {l:List α} (h:W.ownsRow base T k v n (l.flatMap f)) (hn:l.length=n) (j:Nat) (hj:j<l.length): ∃g c,v= .slice (some ⟨g,0,none⟩) n c/\base<=g/\g<W.heap.size/\W.rangeAt g (0+j * k) (f l[j]):=by
 rcases h.2 with ⟨h1,h0⟩|⟨g,cap,cur,h1,h2,h3,h4,h5,h6,h7⟩
 ·omega
 ·refine⟨g,cap,h1,h2,(Array.getElem?_eq_some_iff.1 h3).1,fun t u hu=> ?_⟩
  have ht:t<k:=by
   have:=(List.getElem?_eq_some_iff.1 hu).1
   rwa [hk] at this
  have hlt:j * k+t<n * k:=by
   have:(j+1) * k<=n * k:=Nat.mul_le_mul_right k (by omega)
   rw[Nat.add_mul] at this
   omega
  have h8:(cur.toList.take (n * k))[j * k+t]? =(l.flatMap f)[j * k+t]? :=by rw[h7]
  rw[List.getElem?_take,if_pos hlt,Vh f k hk l j t hj ht,hu] at h8
  have e2:cur[j * k+t]? =some u:=by simpa using h8
  rw[Nat.zero_add]
  simp[World.cell?,h3,e2]
theorem Ll {w w':World} {base e s n:Nat} {v:Value} {xs:List Value} (h:w.ownsRow base e s v n xs) (he: ∀g,v.ownBlock=some g->w'.heap[g]? =w.heap[g]?):w'.ownsRow base e s v n xs:=by
 obtain⟨h1,h2⟩:=h
 refine⟨h1, ?_⟩
 rcases h2 with h2|⟨g,cap,cur,rfl,h3,h4,h5⟩
 ·exact .inl h2
 ·exact .inr ⟨g,cap,cur,rfl,h3,(he g rfl).trans h4,h5⟩
theorem Jm {md:Region.Mode} {ops:Array Oper} {Q:Exit->Act->World->Prop} {S:World->Prop} {w:World} {fuel:Nat} {listed:Array Bool} {a:Act} {o:Oper} (i:Nat) (dst:Option Tmp) {f:FuncId} {args:Array Value} {R:Ending->World->Prop} {rs:List Nat} (hi:ops[i]? =some o) (hd:o.dst=dst) (hw:Region.wanted o (yielded ops a.tmps)=true)
  (he:(execOp a.eval o).run prog w= .ok (.enter f args) w) (hC:Calls prog f args w R)
  (h: ∀e X,R e X-> ∃V,e= .returned V/\S X/\wpAnyH prog md ops Q S fuel (listed.setIfInBounds i true) (a.put dst V) X) (hs:AllReadyH prog md ops Q S fuel listed a w rs):AllReadyH prog md ops Q S fuel listed a w (i::rs):=by
 subst hd
 refine AllReadyH.cons hi (fun K hK=> ?_) hs
 rw[if_pos hw]
 unfold Oper.wp
 rw[he,Oper.upon_enter]
 refine hC.mono ?_
 intro e X hR
 obtain⟨V,rfl,hSX,hV⟩:=h e X hR
 exact hK.out _ _ hSX (fun _=>hV)
theorem Gs {md:Region.Mode} {ops:Array Oper} {Q:Exit->Act->World->Prop} {S:World->Prop} {w:World} {fuel:Nat} {listed:Array Bool} {a:Act} {o:Oper} (i:Nat) (dst:Option Tmp) (hi:ops[i]? =some o) (hs:Region.noSelect ops=true) (hf:Region.free md ops listed i=true) (hr:(Region.ready md ops listed).contains i=true)
  (hQ: ∀c a w,Q (.panic c) (a.put dst undef) w->Q (.panic c) a w) (hd:o.dst=dst) (hw:Region.wanted o (yielded ops a.tmps)=false)
  (hS:S w) (h:wpAnyH prog md ops Q S fuel (listed.setIfInBounds i true) (a.put dst undef) w):wpAnyH prog md ops Q S (fuel+1) listed a w:=by
 subst hd
 exact wpAnyH_take hi hs hf hr hQ (Or.inr ⟨hw,rfl⟩) hS h
section
variable {md:Region.Mode} {ops:Array Oper} {Q:Exit->Act->World->Prop} {S:World->Prop} {w:World} {fuel:Nat} {listed:Array Bool} {a:Act} {o:Oper}
def tk (md:Region.Mode) (ops:Array Oper) (listed:Array Bool) (i:Nat) (o:Oper) (a:Act) (b:Bool):Bool:=Region.noSelect ops && Region.free md ops listed i && (Region.ready md ops listed).contains i && (Region.wanted o (yielded ops a.tmps)==b)
theorem ZcT {i:Nat} {b:Bool} (h:tk md ops listed i o a b=true):Region.noSelect ops=true/\Region.free md ops listed i=true/\(Region.ready md ops listed).contains i=true/\Region.wanted o (yielded ops a.tmps)=b:=by
 unfold tk at h
 simp only[Bool.and_eq_true,beq_iff_eq] at h
 exact⟨h.1.1.1,h.1.1.2,h.1.2,h.2⟩
theorem gq0 (i:Nat) (dst:Option Tmp) (v:Value) (hi:ops[i]? =some o) (hd:o.dst=dst) (hy: ∀X,S X->(execOp a.eval o).run prog X= .ok (.value v) X) (hS:S w) (h:wpAnyH prog md ops Q S fuel (listed.setIfInBounds i true) (a.put dst v) w) (hc:tk md ops listed i o a true=true:=by kernel_rfl) (hQ: ∀c a w,Q (.panic c) (a.put dst v) w->Q (.panic c) a w:=by exact fun _ _ _ h=>h):wpAnyH prog md ops Q S (fuel+1) listed a w:=by
 obtain⟨h1,h2,h3,h4⟩:=ZcT hc
 exact gsem i dst v hi h1 h2 h3 hQ hd h4 hy hS h
theorem gq {aB:Act} (i:Nat) (dst:Option Tmp) (v:Value) (hi:ops[i]? =some o) (hd:o.dst=dst) (hy: ∀X,S X->(execOp a.eval o).run prog X= .ok (.value v) X) (hS:S w) (h:wpAnyH prog md ops Q S fuel (listed.setIfInBounds i true) aB w) (hb:a.put dst v=aB:=by simp only[nn]<;>rfl) (hc:tk md ops listed i o a true=true:=by kernel_rfl) (hQ: ∀c a w,Q (.panic c) (a.put dst v) w->Q (.panic c) a w:=by exact fun _ _ _ h=>h):wpAnyH prog md ops Q S (fuel+1) listed a w:=gq0 i dst v hi hd hy hS (hb▸h) hc hQ
theorem gp0 (i:Nat) (dst:Option Tmp) (v:Value) (hi:ops[i]? =some o) (hd:o.dst=dst) (hS:S w) (h:wpAnyH prog md ops Q S fuel (listed.setIfInBounds i true) (a.put dst v) w) (hy: ∀X,(execOp a.eval o).run prog X= .ok (.value v) X:=by exact fun _=>by kernel_rfl) (hc:tk md ops listed i o a true=true:=by kernel_rfl) (hQ: ∀c a w,Q (.panic c) (a.put dst v) w->Q (.panic c) a w:=by exact fun _ _ _ h=>h):wpAnyH prog md ops Q S (fuel+1) listed a w:=
 gq0 i dst v hi hd (fun X _=>hy X) hS h hc hQ
theorem gp {aB:Act} (i:Nat) (dst:Option Tmp) (v:Value) (hi:ops[i]? =some o) (hd:o.dst=dst) (hS:S w) (h:wpAnyH prog md ops Q S fuel (listed.setIfInBounds i true) aB w) (hb:a.put dst v=aB:=by simp only[nn]<;>rfl) (hy: ∀X,(execOp a.eval o).run prog X= .ok (.value v) X:=by exact fun _=>by kernel_rfl) (hc:tk md ops listed i o a true=true:=by kernel_rfl) (hQ: ∀c a w,Q (.panic c) (a.put dst v) w->Q (.panic c) a w:=by exact fun _ _ _ h=>h):wpAnyH prog md ops Q S (fuel+1) listed a w:=gp0 i dst v hi hd hS (hb▸h) hy hc hQ
theorem gk (i:Nat) (dst:Option Tmp) (hi:ops[i]? =some o) (hd:o.dst=dst) (hS:S w) (h:wpAnyH prog md ops Q S fuel (listed.setIfInBounds i true) (a.put dst undef) w) (hc:tk md ops listed i o a false=true:=by kernel_rfl) (hQ: ∀c a w,Q (.panic c) (a.put dst undef) w->Q (.panic c) a w:=by exact fun _ _ _ h=>h):wpAnyH prog md ops Q S (fuel+1) listed a w:=by
 obtain⟨h1,h2,h3,h4⟩:=ZcT hc
 exact Gs i dst hi h1 h2 h3 hQ hd h4 hS h
theorem gc (i:Nat) (dst:Option Tmp) {f:FuncId} {args:Array Value} {R:Ending->World->Prop} {rs:List Nat} (hi:ops[i]? =some o) (hd:o.dst=dst) (hC:Calls prog f args w R)
  (h: ∀e X,R e X-> ∃V,e= .returned V/\S X/\wpAnyH prog md ops Q S fuel (listed.setIfInBounds i true) (a.put dst V) X) (hs:AllReadyH prog md ops Q S fuel listed a w rs) (hw:Region.wanted o (yielded ops a.tmps)=true:=by kernel_rfl) (he:(execOp a.eval o).run prog w= .ok (.enter f args) w:=by kernel_rfl):AllReadyH prog md ops Q S fuel listed a w (i::rs):=
 Jm i dst hi hd hw he hC h hs
theorem gv (i:Nat) (dst:Option Tmp) {V:Value} {X:World} {rs:List Nat} (hi:ops[i]? =some o) (hd:o.dst=dst) (he:(execOp a.eval o).run prog w= .ok (.value V) X) (hSX:S X)
  (h:wpAnyH prog md ops Q S fuel (listed.setIfInBounds i true) (a.put dst V) X) (hs:AllReadyH prog md ops Q S fuel listed a w rs) (hw:Region.wanted o (yielded ops a.tmps)=true:=by kernel_rfl):AllReadyH prog md ops Q S fuel listed a w (i::rs):=
 Qb i dst hi hd hw he hSX h hs
theorem gr {rs:List Nat} (h:AllReadyH prog md ops Q S fuel listed a w rs) (hr:Region.ready md ops listed=rs:=by kernel_rfl) (hne:rs≠ []:=by simp):wpAnyH prog md ops Q S (fuel+1) listed a w:=wpAnyH_ready hr hne h
theorem gn:AllReadyH prog md ops Q S fuel listed a w []:=AllReadyH.nil
end
theorem ZdD (cs vs:List Value) (p:Nat) (h:p+vs.length<=cs.length):(Bt cs p vs).length=cs.length:=by
 unfold Bt
 rw[List.length_append,List.length_append,List.length_take,List.length_drop]
 omega
structure Ob where
 bs:List Nat
 P:World->Prop
structure Ob.Ok (o:Ob):Prop where
 on: ∀{X Y:World},(∀b∈o.bs,Y.heap[b]? =X.heap[b]?)->o.P X->o.P Y
 lt: ∀{X:World},o.P X-> ∀b∈o.bs,b<X.heap.size
def Av (B:Nat) (cs:List Value):Ob:=⟨[B],fun X=>Holds X B cs/\0<cs.length⟩
def Ec (base e s:Nat) (v:Value) (n:Nat) (ys:List Value):Ob:=⟨v.ownBlock.toList,fun X=>X.ownsRow base e s v n ys⟩
theorem ZcO (B:Nat) (cs:List Value):(Av B cs).Ok:=
 ⟨fun h k=>⟨k.1.block (h B (List.mem_singleton.2 rfl)),k.2⟩,fun h b hb=>by obtain rfl:=List.mem_singleton.1 hb;exact h.1.lt h.2⟩
theorem Oh (base e s:Nat) (v:Value) (n:Nat) (ys:List Value):(Ec base e s v n ys).Ok:=
 ⟨fun h k=>Ll k (fun g hg=>h g (by simp[Ec,hg])),fun h b hb=>(World.ownsRow.lt h b (by simpa [Ec] using hb)).2⟩
structure Sy (w X:World) (E:List Nat) (L:List Ob):Prop where
 fr:Fr w X E
 ok: ∀o∈L,o.Ok
 ho: ∀o∈L,o.P X
 lo: ∀o∈L,∀b∈o.bs,b∈E∨w.heap.size<=b
 dis:L.Pairwise (fun a b=> ∀x∈a.bs,x ∉ b.bs)
section
variable {w X Y:World} {E:List Nat} {L:List Ob}
theorem Sy.nil (w:World) (E:List Nat):Sy w w E []:=⟨Fr.refl _ _,by simp,by simp,by simp,by simp⟩
theorem Sy.get (h:Sy w X E L) (i:Nat) {o:Ob} (hi:L[i]? =some o):o.P X:=h.ho o (List.mem_of_getElem? hi)
theorem Sy.on (h:Sy w X E L) (k:Below X.heap.size X Y):Sy w Y E L:=
 ⟨h.fr.on k,h.ok,fun o ho=>(h.ok o ho).on (fun b hb=>k.block b ((h.ok o ho).lt (h.ho o ho) b hb)) (h.ho o ho),h.lo,h.dis⟩
theorem Sy.drew (h:Sy w X E L):Sy w X.drew E L:=h.on ⟨rfl,rfl,rfl,Nat.le_refl _,fun _ _=>rfl⟩
theorem Sy.add (h:Sy w X E L) {o:Ob} (hok:o.Ok) (hP:o.P Y) (k:Below X.heap.size X Y) (hb: ∀b∈o.bs,X.heap.size<=b):Sy w Y E (L++ [o]):=by
 have h1:=h.on k
 refine⟨h1.fr,fun q hq=> ?_,fun q hq=> ?_,fun q hq=> ?_, ?_⟩
 ·rcases List.mem_append.1 hq with h2|h2
  ·exact h.ok q h2
  ·rw[List.mem_singleton.1 h2];exact hok
 ·rcases List.mem_append.1 hq with h2|h2
  ·exact h1.ho q h2
  ·rw[List.mem_singleton.1 h2];exact hP
 ·rcases List.mem_append.1 hq with h2|h2
  ·exact h.lo q h2
  ·rw[List.mem_singleton.1 h2];exact fun b hm=> .inr (Nat.le_trans h.fr.size (hb b hm))
 ·rw[List.pairwise_append]
  refine⟨h.dis,by simp,fun a ha c hc x hx hxc=> ?_⟩
  rw[List.mem_singleton.1 hc] at hxc
  have h2:=(h.ok a ha).lt (h.ho a ha) x hx
  have h3:=hb x hxc
  omega
theorem Sy.set (h:Sy w X E L) (i:Nat) {o o':Ob} (hi:L[i]? =some o) (hok:o'.Ok) (hP:o'.P Y) (hf:Fr X Y o.bs) (hb: ∀b∈o'.bs,b∈o.bs∨X.heap.size<=b):Sy w Y E (L.set i o'):=by
 obtain⟨hlt,hi'⟩:=List.getElem?_eq_some_iff.1 hi
 have hmem:o∈L:=List.mem_of_getElem? hi
 have apart: ∀(j:Nat) (a:Ob),L[j]? =some a->j≠i-> ∀x∈a.bs,x ∉ o.bs:=by
  intro j a hj hne x hx hxo
  obtain⟨hjl,hj'⟩:=List.getElem?_eq_some_iff.1 hj
  rcases Nat.lt_or_gt_of_ne hne with h1|h1
  ·have:=List.pairwise_iff_getElem.1 h.dis j i hjl hlt h1
   rw[hj',hi'] at this
   exact this x hx hxo
  ·have:=List.pairwise_iff_getElem.1 h.dis i j hlt hjl h1
   rw[hj',hi'] at this
   exact this x hxo hx
 have keep: ∀(j:Nat) (a:Ob),L[j]? =some a->j≠i->a.P Y:=fun j a hj hne=>
  (h.ok a (List.mem_of_getElem? hj)).on (fun b hm=>hf.block b ((h.ok a (List.mem_of_getElem? hj)).lt (h.ho a (List.mem_of_getElem? hj)) b hm) (apart j a hj hne b hm)) (h.ho a (List.mem_of_getElem? hj))
 have each: ∀q∈L.set i o',q=o'∨ ∃j:Nat,L[j]? =some q/\j≠i:=by
  intro q hq
  obtain⟨j,hj⟩:=List.getElem?_of_mem hq
  by_cases e:j=i
  ·subst e
   rw[List.getElem?_set_self hlt] at hj
   exact .inl (Option.some.inj hj).symm
  ·rw[List.getElem?_set_ne (fun e'=>e e'.symm)] at hj
   exact .inr ⟨j,hj,e⟩
 refine⟨h.fr.trans hf (fun b hm=>h.lo o hmem b hm),fun q hq=> ?_,fun q hq=> ?_,fun q hq=> ?_, ?_⟩
 ·rcases each q hq with rfl|⟨j,hj,_⟩
  ·exact hok
  ·exact h.ok q (List.mem_of_getElem? hj)
 ·rcases each q hq with rfl|⟨j,hj,hne⟩
  ·exact hP
  ·exact keep j q hj hne
 ·rcases each q hq with rfl|⟨j,hj,hne⟩
  ·intro b hm
   rcases hb b hm with h1|h1
   ·exact h.lo o hmem b h1
   ·exact .inr (Nat.le_trans h.fr.size h1)
  ·exact h.lo q (List.mem_of_getElem? hj)
 ·have far: ∀(j:Nat) (a:Ob),L[j]? =some a->j≠i-> ∀x∈o'.bs,x ∉ a.bs:=by
   intro j a hj hne x hx hxa
   rcases hb x hx with h1|h1
   ·exact apart j a hj hne x hxa h1
   ·have:=(h.ok a (List.mem_of_getElem? hj)).lt (h.ho a (List.mem_of_getElem? hj)) x hxa
    omega
  rw[List.pairwise_iff_getElem]
  intro p q hp hq hpq
  rw[List.length_set] at hp hq
  rw[List.getElem_set,List.getElem_set]
  by_cases e1:i=p
  ·subst e1
   rw[if_pos rfl,if_neg (by omega)]
   exact far q _ (List.getElem?_eq_getElem hq) (by omega)
  ·rw[if_neg e1]
   by_cases e2:i=q
   ·subst e2
    rw[if_pos rfl]
    exact fun x hx hx'=>far p _ (List.getElem?_eq_getElem hp) (by omega) x hx' hx
   ·rw[if_neg e2]
    exact List.pairwise_iff_getElem.1 h.dis p q hp hq hpq
theorem Sy.left {M:List Ob} (h:Sy w X E (L++M)):Sy w X E L:=
 ⟨h.fr,fun o ho=>h.ok o (List.mem_append_left _ ho),fun o ho=>h.ho o (List.mem_append_left _ ho),fun o ho=>h.lo o (List.mem_append_left _ ho),(List.pairwise_append.1 h.dis).1⟩
theorem Sy.box (h:Sy w X E L) (cs:List Value) (t:TypeId) (hc:0<cs.length):Sy w (X.alloc (Obj.cells cs.toArray t)) E (L++ [Av X.heap.size cs]):=
 h.add (ZcO _ _) ⟨Holds.new X cs t,hc⟩ ((Below.refl _ _).alloc (Nat.le_refl _) _) (fun b hb=>by rw[List.mem_singleton.1 hb];exact Nat.le_refl _)
theorem Sy.hold (h:Sy w X E L) (i:Nat) {b:Nat} {cs:List Value} (hi:L[i]? =some (Av b cs)):Holds X b cs:=(h.get i hi).1
theorem Sy.put (h:Sy w X E L) (i:Nat) {b:Nat} {cs:List Value} (hi:L[i]? =some (Av b cs)) (p:Nat) (vs:List Value) (hp:p+vs.length<=cs.length):Sy w (X.setCells b p vs) E (L.set i (Av b (Bt cs p vs))):=by
 have h1:=h.get i hi
 exact h.set i hi (ZcO _ _) ⟨h1.1.put p vs hp,by rw[ZdD _ _ _ hp];exact h1.2⟩ (Fr.setCells X b p vs) (fun c hc=> .inl hc)
theorem Sy.row (h:Sy w X E L) (i:Nat) {base e s n n':Nat} {v v':Value} {ys ys':List Value} (hi:L[i]? =some (Ec base e s v n ys)) (hO:Y.ownsRow base e s v' n' ys') (hg:X.grownBy Y v.ownBlock) (hF:Kz X v v'):Sy w Y E (L.set i (Ec base e s v' n' ys')):=
 h.set i hi (Oh _ _ _ _ _ _) hO (Fr.grown hg) (fun b hb=>by
  have hb':v'.ownBlock=some b:=by simpa [Ec] using hb
  rcases hF with e|e
  ·exact .inl (by simp[Ec,←e,hb'])
  ·rw[e] at hb'
   exact .inr (Nat.le_of_eq (Option.some.inj hb')))
theorem Sy.apart (h:Sy w X E L) {i j:Nat} {a b:Ob} (hi:L[i]? =some a) (hj:L[j]? =some b) (hne:i≠j): ∀x∈a.bs,x ∉ b.bs:=by
 obtain⟨hil,hi'⟩:=List.getElem?_eq_some_iff.1 hi
 obtain⟨hjl,hj'⟩:=List.getElem?_eq_some_iff.1 hj
 intro x hx hxb
 rcases Nat.lt_or_gt_of_ne hne with h1|h1
 ·have:=List.pairwise_iff_getElem.1 h.dis i j hil hjl h1
  rw[hi',hj'] at this
  exact this x hx hxb
 ·have:=List.pairwise_iff_getElem.1 h.dis j i hjl hil h1
  rw[hi',hj'] at this
  exact this x hxb hx
end


section
variable {ops:Array Oper} {rest:List Oper} {Q:Exit->Act->World->Prop} {w w0:World} {a:Act} {o:Oper} {E:List Nat} {L:List Ob}
theorem bxS {v:Value} {x:Operand} (ty:TypeId) (cs:List Value) (hw:Region.wanted o (yielded ops a.tmps)=true) (ho:o.op= .box ty x) (hx:a.eval x=v) (hv:v.cells.toList=cs) (hc:0<cs.length) (hL:Sy w0 w E L)
  (h: ∀X B,B=w.heap.size->Sy w0 X E (L++ [Av B cs])->Below w.heap.size w X->wpList prog ops Q rest (a.put o.dst (.pointer (some ⟨B,0,none⟩))) X):wpList prog ops Q (o::rest) a w:=by
 refine BigFrame.wpList_want hw fun K hK=> ?_
 have e:v.cells=cs.toArray:=by rw[←hv]
 have hP:=hK _ _ (h _ _ rfl (hL.box cs ty hc) ((Below.refl _ _).alloc (Nat.le_refl _) _))
 have e2:(Instr.box ty v).run prog w= .ok (.pointer (some ⟨w.heap.size,0,none⟩)) (w.alloc (Obj.cells cs.toArray ty)):=by rw[←e];rfl
 unfold Oper.wp execOp
 simp only[ho,hx]
 simp[e2]
 exact hP
theorem alS {v:Value} (ty:TypeId) (cs:List Value) (hw:Region.wanted o (yielded ops a.tmps)=true) (ho:o.op= .alloc ty) (hz: ∀w,(zeroValue ty).run prog w= .ok v w) (hv:v.cells.toList=cs) (hc:0<cs.length) (hL:Sy w0 w E L)
  (h: ∀X B,B=w.heap.size->Sy w0 X E (L++ [Av B cs])->Below w.heap.size w X->wpList prog ops Q rest (a.put o.dst (.pointer (some ⟨B,0,none⟩))) X):wpList prog ops Q (o::rest) a w:=by
 refine BigFrame.wpList_want hw fun K hK=> ?_
 have e:v.cells=cs.toArray:=by rw[←hv]
 have hP:=hK _ _ (h _ _ rfl (hL.box cs ty hc) ((Below.refl _ _).alloc (Nat.le_refl _) _))
 have he:(execOp a.eval o).run prog w= .ok (.value (.pointer (some ⟨w.heap.size,0,none⟩))) (w.alloc (Obj.cells cs.toArray ty)):=by
  unfold execOp
  simp only[ho]
  simp[go_sem,hz]
  show w.alloc (Obj.cells v.cells ty)=_
  rw[e]
 unfold Oper.wp
 rw[he]
 exact hP
theorem stS {b p:Nat} {cs vs:List Value} {v:Value} {x y:Operand} (i:Nat) (ty:TypeId) (hw:Region.wanted o (yielded ops a.tmps)=true) (ho:o.op= .store ty x y) (hx:a.eval x= .pointer (some ⟨b,p,none⟩)) (hy:a.eval y=v)
  (hv:v.cells.toList=vs) (h1: ∀u∈vs,u.oneCell'=true) (hi:(prog.info? ty).map (·.size)=some vs.length) (hL:Sy w0 w E L) (hg:L[i]? =some (Av b cs)) (hp:p+vs.length<=cs.length)
  (h: ∀X,Sy w0 X E (L.set i (Av b (Bt cs p vs)))->Fr w X [b]->X.heap.size=w.heap.size->wpList prog ops Q rest (a.put o.dst undef) X):wpList prog ops Q (o::rest) a w:=by
 refine BigFrame.wpList_want hw fun K hK=> ?_
 have hP:=hK _ _ (h _ (hL.put i hg p vs hp) (Fr.setCells w b p vs) (Eu _ _ _))
 unfold Oper.wp execOp
 simp only[ho,hx,hy,Instr.storeAt,Instr.sureAddr,Sem.run_bind,Sem.run_pure,Result.andThen_ok,Dw w b p ty v vs hv ((hL.hold i hg).there p vs.length hp) hi h1]
 exact hP
theorem apS {t e:TypeId} {size bytes k B base:Nat} {z v:Value} {xs news:List Value} {s x:Operand} (i j:Nat) (hgd:o.guard=none) (ho:o.op= .call {callee:= .builtin .append,args:= #[s,x],argTypes:= #[t,t]}) (hs:a.eval s=v) (hx:a.eval x= .slice (some ⟨B,0,none⟩) 1 1)
  (ht:prog.underlying t=some (.slice e)) (hi:(prog.info? e).map (fun i=>(i.zero,i.size,i.bytes))=some (some z,size,bytes)) (hz:z.cells.size=size) (hsz:0<size) (hL:Sy w0 w E L) (hi1:L[i]? =some (Ec base e size v k xs)) (hj1:L[j]? =some (Av B news)) (hl:news.length=size) (h1: ∀u∈news,u.oneCell'=true)
  (hn:k+1<=4000000) (hby:bytes<=10000) (hbase:base<=w.heap.size)
  (h: ∀A c X,Sy w0 X E (L.set i (Ec base e size (.slice A (k+1) c) (k+1) (xs++news)))->wpList prog ops Q rest (a.put o.dst (.slice A (k+1) c)) X):wpList prog ops Q (o::rest) a w:=
 Uq (m:=1) hgd ho hs hx ht hi hz hsz (hL.get i hi1) (hL.hold j hj1) (by rw[hl];omega) h1 hn hby hbase (fun A c X h2 h3 h4=>h A c X (hL.row i hi1 h2 h3 h4))
theorem bsS {t e:TypeId} {size bytes:Nat} {z v:Value} {cs:List Value} {x:Operand}  (ho:o.op= .buildSlice t 1 #[(0,x)]) (hx:a.eval x=v)
  (ht:prog.underlying t=some (.slice e)) (hi:(prog.info? e).map (fun i=>(i.zero,i.size,i.bytes))=some (some z,size,bytes))  (hv:v.cells.toList=cs) (hc:cs.length=size)  (hL:Sy w0 w E L)
  (h: ∀X B,B=w.heap.size->Sy w0 X E (L++ [Av B cs])->Below w.heap.size w X->wpList prog ops Q rest (a.put o.dst (.slice (some ⟨B,0,none⟩) 1 1)) X) (hw:Region.wanted o (yielded ops a.tmps)=true:=by rfl) (hs1:size<=100:=by omega) (h0:0<size:=by omega):wpList prog ops Q (o::rest) a w:=by
 refine BigFrame.wpList_want hw fun K hK=> ?_
 have hP:=hK _ _ (h _ _ rfl (hL.box cs e (by omega)) ((Below.refl _ _).alloc (Nat.le_refl _) _))
 unfold Oper.wp
 rw[Mb ho hx ht hi hs1 hv hc h0]
 exact hP
theorem mkS {t e:TypeId} {size bytes:Nat} {z:Value} {c x:Operand} (base n:Nat) (hw:Region.wanted o (yielded ops a.tmps)=true) (ho:o.op= .makeSlice t c x) (hc:a.eval c= .int .i64 0) (hx:a.eval x= .int .i64 (n:Nat))
  (ht:prog.underlying t=some (.slice e)) (hi:(prog.info? e).map (fun i=>(i.zero,i.size,i.bytes))=some (some z,size,bytes)) (hn:n<=100000) (hs:size<=100) (hby:bytes<=10000) (hL:Sy w0 w E L) (hb:base<=w.heap.size)
  (h: ∀X B,B=w.heap.size->Sy w0 X E (L++ [Ec base e size (.slice (some ⟨B,0,none⟩) 0 n) 0 []])->Below w.heap.size w X->wpList prog ops Q rest (a.put o.dst (.slice (some ⟨B,0,none⟩) 0 n)) X):wpList prog ops Q (o::rest) a w:=
 mk_any n hw ho hc hx ht hi hn hs hby (fun wm h1 h2=>h wm _ rfl (hL.add (Oh _ _ _ _ _ _) (Np h1 hb) h2 (fun b hb2=>by
  have:b=w.heap.size:=by simpa [Ec,Value.ownBlock,eq_comm] using hb2
  omega)) h2)
end
theorem rwK: ∃d,prog.underlying 37=some d/\d.isRow=true:=⟨_,underlying37,rfl⟩
theorem szK:(prog.info? 37).map (·.size)=some 2:=by kernel_rfl
theorem rwV: ∃d,prog.underlying 40=some d/\d.isRow=true:=⟨_,underlying40,rfl⟩
theorem szV:(prog.info? 40).map (·.size)=some 5:=by kernel_rfl
theorem rwD: ∃d,prog.underlying 43=some d/\d.isRow=true:=⟨_,underlying43,rfl⟩
theorem szD:(prog.info? 43).map (·.size)=some 18:=by kernel_rfl
theorem rwA: ∃d,prog.underlying 46=some d/\d.isRow=true:=⟨_,underlying46,rfl⟩
theorem szA:(prog.info? 46).map (·.size)=some 34:=by kernel_rfl
theorem rwT: ∃d,prog.underlying 56=some d/\d.isRow=true:=⟨_,underlying56,rfl⟩
theorem szT:(prog.info? 56).map (·.size)=some 59:=by kernel_rfl
theorem rwF: ∃d,prog.underlying 58=some d/\d.isRow=true:=⟨_,underlying58,rfl⟩
theorem szF:(prog.info? 58).map (·.size)=some 7:=by kernel_rfl
theorem rwN: ∃d,prog.underlying 60=some d/\d.isRow=true:=⟨_,underlying60,rfl⟩
theorem szN:(prog.info? 60).map (·.size)=some 34:=by kernel_rfl
theorem rwP: ∃d,prog.underlying 80=some d/\d.isRow=true:=⟨_,underlying80,rfl⟩
theorem szP:(prog.info? 80).map (·.size)=some 20:=by kernel_rfl
theorem rwS: ∃d,prog.underlying 85=some d/\d.isRow=true:=⟨_,underlying85,rfl⟩
theorem szS:(prog.info? 85).map (·.size)=some 8:=by kernel_rfl
theorem Ms (w:World):(sizeOf (prog.elem 49)).run prog w= .ok 20 w:=by kernel_rfl
theorem Mq:prog.underlying 49=some (.slice (prog.elem 49)):=by kernel_rfl
theorem Zdr (w:World):(sizeOf (prog.elem 61)).run prog w= .ok 8 w:=by kernel_rfl
theorem ZcR:prog.underlying 61=some (.slice (prog.elem 61)):=by kernel_rfl
theorem ZaF (w:World):(sizeOf (prog.elem 44)).run prog w= .ok 5 w:=by kernel_rfl
theorem Zy:prog.underlying 44=some (.slice (prog.elem 44)):=by kernel_rfl
theorem idOs (w:World):(sizeOf (prog.elem 92)).run prog w= .ok 1 w:=by kernel_rfl
theorem unOs:prog.underlying 92=some (.slice (prog.elem 92)):=by kernel_rfl
theorem idEs (w:World):(sizeOf (prog.elem 159)).run prog w= .ok 1 w:=by kernel_rfl
theorem unEs:prog.underlying 159=some (.slice (prog.elem 159)):=by kernel_rfl
theorem sz_i:(prog.info? 3).map (·.size)=some 1:=by kernel_rfl
theorem sz_b:(prog.info? 4).map (·.size)=some 1:=by kernel_rfl
section
variable {ops:Array Oper} {rest:List Oper} {Q:Exit->Act->World->Prop} {w w0:World} {a:Act} {o:Oper} {E:List Nat} {L:List Ob}
theorem gcB {md:Region.Mode} {S:World->Prop} {fuel:Nat} {listed:Array Bool} {f:FuncId} {args:Array Value} {v:Value} {rs:List Nat} (i:Nat) (dst:Option Tmp) (hi:ops[i]? =some o) (hd:o.dst=dst) (hL:Sy w0 w E L) (hC:Calls prog f args w fun e w'=>e= .returned v/\Below w.heap.size w w') (hT: ∀{X},Sy w0 X E L->S X)
  (h: ∀X,Sy w0 X E L->wpAnyH prog md ops Q S fuel (listed.setIfInBounds i true) (a.put dst v) X) (hs:AllReadyH prog md ops Q S fuel listed a w rs) (hw:Region.wanted o (yielded ops a.tmps)=true:=by kernel_rfl) (he:(execOp a.eval o).run prog w= .ok (.enter f args) w:=by kernel_rfl):AllReadyH prog md ops Q S fuel listed a w (i::rs):=
 gc i dst hi hd hC (fun e X hX=>⟨v,hX.1,hT (hL.on hX.2),h X (hL.on hX.2)⟩) hs hw he
theorem gcW {md:Region.Mode} {S:World->Prop} {fuel:Nat} {listed:Array Bool} {f:FuncId} {args:Array Value} {v:Value} {rs:List Nat} (i:Nat) (dst:Option Tmp) (hi:ops[i]? =some o) (hd:o.dst=dst) (hS:S w) (hC:Calls prog f args w fun e w'=>e= .returned v/\w'=w)
  (h:wpAnyH prog md ops Q S fuel (listed.setIfInBounds i true) (a.put dst v) w) (hs:AllReadyH prog md ops Q S fuel listed a w rs) (hw:Region.wanted o (yielded ops a.tmps)=true:=by kernel_rfl) (he:(execOp a.eval o).run prog w= .ok (.enter f args) w:=by kernel_rfl):AllReadyH prog md ops Q S fuel listed a w (i::rs):=
 gc i dst hi hd hC (fun e X hX=>⟨v,hX.1,hX.2▸hS,hX.2▸h⟩) hs hw he
theorem zB {v:Value} {x:Operand} (ty:TypeId) (cs:List Value)  (ho:o.op= .box ty x) (hx:a.eval x=v) (hv:v.cells.toList=cs) (S:Hid (Sy w0 w E L))
  (h: ∀X B,Hid (Sy w0 X E (L++ [Av B cs]))->wpList prog ops Q rest (a.put o.dst (.pointer (some ⟨B,0,none⟩))) X) (hc:0<cs.length:=by exact Nat.succ_pos _) (hw:Region.wanted o (yielded ops a.tmps)=true:=by rfl):wpList prog ops Q (o::rest) a w:=
 bxS ty cs hw ho hx hv hc S (fun X B _ S _=>h X B S)
theorem zA (ty:TypeId) (cs:List Value)  (ho:o.op= .alloc ty) (S:Hid (Sy w0 w E L))
  (h: ∀X B,Hid (Sy w0 X E (L++ [Av B cs]))->wpList prog ops Q rest (a.put o.dst (.pointer (some ⟨B,0,none⟩))) X) (hz: ∀w,(zeroValue ty).run prog w= .ok (.agg cs.toArray) w:=by intro w;kernel_rfl) (hc:0<cs.length:=by exact Nat.succ_pos _) (hw:Region.wanted o (yielded ops a.tmps)=true:=by rfl):wpList prog ops Q (o::rest) a w:=
 alS (v:= .agg cs.toArray) ty cs hw ho hz (by simp[Value.cells]) hc S (fun X B _ S _=>h X B S)
theorem zS {b p:Nat} {cs:List Value} {v:Value} {x y:Operand} (vs:List Value) (i:Nat) (ty:TypeId)  (ho:o.op= .store ty x y) (hx:a.eval x= .pointer (some ⟨b,p,none⟩)) (hy:a.eval y=v)
  (hv:v.cells.toList=vs) (h1: ∀u∈vs,u.oneCell'=true) (hi:(prog.info? ty).map (·.size)=some vs.length) (S:Hid (Sy w0 w E L)) (hg:L[i]? =some (Av b cs))
  (h: ∀X,Hid (Sy w0 X E (L.set i (Av b (Bt cs p vs))))->wpList prog ops Q rest (a.put o.dst undef) X) (hp:p+vs.length<=cs.length:=by simp[Bt,VV.cs,KK.cs,DD.cs,zeroD,Aq]) (hw:Region.wanted o (yielded ops a.tmps)=true:=by rfl):wpList prog ops Q (o::rest) a w:=
 stS i ty hw ho hx hy hv h1 hi S hg hp (fun X S _ _=>h X S)
theorem zL {B p:Nat} {x:Operand} {cs:List Value} (vs:List Value) (t:TypeId) (n i:Nat) (hu: ∃d,prog.underlying t=some d/\d.isRow=true) (hi:(prog.info? t).map (·.size)=some n)  (ho:o.op= .load t x) (hx:a.eval x= .pointer (some ⟨B,p,none⟩)) (S:Hid (Sy w0 w E L)) (hg:L[i]? =some (Av B cs)) (hv:(cs.drop p).take n=vs) (hn:vs.length=n) (h:wpList prog ops Q rest (a.put o.dst (.agg vs.toArray)) w) (hw:Region.wanted o (yielded ops a.tmps)=true:=by rfl):wpList prog ops Q (o::rest) a w:=
 rd hw (Af (vs:=vs) t n hu hi ho hx (Sy.hold S i hg) hv hn) h
theorem z1 {B p:Nat} {x:Operand} {cs:List Value} {v:Value} (t:TypeId) (hna: ∀w,(isAgg t).run prog w= .ok false w) (i:Nat) (hw:Region.wanted o (yielded ops a.tmps)=true) (ho:o.op= .load t x) (hx:a.eval x= .pointer (some ⟨B,p,none⟩)) (S:Hid (Sy w0 w E L)) (hg:L[i]? =some (Av B cs)) (hv:cs[p]? =some v) (h:wpList prog ops Q rest (a.put o.dst v) w):wpList prog ops Q (o::rest) a w:=
 rd hw (Ad t hna ho hx (Sy.hold S i hg) hv) h
end
end
section
open Go Go.Proofs Go.Maps Go.RowKit FM
structure OB where
 b:Nat
 c:Int
 p:VV
 x:Bool
 T:TT
def OB.cs (o:OB):List Value:= [.int .i64 o.c]++o.p.cs++ [.bool o.x, .pointer (some ⟨o.T.t,0,none⟩), .iface 109 (.agg #[]), .nilIface]
def OB.ptr (o:OB):Value:= .pointer (some ⟨o.b,0,none⟩)
theorem Qx (o:OB):o.cs.length=10:=rfl
structure HP where
 b:Nat
 gv:Value
 l:List OB
 cap:Int
 fuel:Int
 depth:Int
 ent:Int
def hcs (h:HP):List Value:= [h.gv, .int .i64 h.cap, .int .i64 h.fuel, .int .i64 h.depth, .int .i64 h.ent]
def obO (o:OB):Ob:=⟨o.b::o.T.blocks,fun X=>Holds X o.b o.cs/\o.T.Is X/\o.b ∉ o.T.blocks⟩
theorem Zek (o:OB):(obO o).Ok:=⟨fun h k=>⟨k.1.block (h _ (List.mem_cons_self ..)),k.2.1.block (fun b hb=>h b (List.mem_cons_of_mem _ hb)),k.2.2⟩,fun h b hb=>by
 rcases List.mem_cons.1 hb with rfl|hb
 ·exact h.1.lt (by rw[Qx];omega)
 ·exact h.2.1.lt b hb⟩
def HP.things (h:HP):List Ob:=Av h.b (hcs h)::Ec 0 97 1 h.gv h.l.length (h.l.map OB.ptr)::h.l.map obO
def HP.blocks (h:HP):List Nat:=h.things.flatMap (·.bs)
structure HP.Is (h:HP) (X:World):Prop where
 ho: ∀o∈h.things,o.P X
 dis:h.things.Pairwise (fun a b=> ∀x∈a.bs,x ∉ b.bs)
 low: ∀b∈h.blocks,6<=b
theorem Qu (h:HP): ∀o∈h.things,o.Ok:=by
 intro o ho
 rcases List.mem_cons.1 ho with rfl|ho
 ·exact ZcO _ _
 rcases List.mem_cons.1 ho with rfl|ho
 ·exact Oh _ _ _ _ _ _
 obtain⟨q, -,rfl⟩:=List.mem_map.1 ho
 exact Zek q
theorem HP.mem_blocks {h:HP} {o:Ob} {b:Nat} (ho:o∈h.things) (hb:b∈o.bs):b∈h.blocks:=List.mem_flatMap.2 ⟨o,ho,hb⟩
theorem HP.Is.lt {h:HP} {X:World} (H:h.Is X): ∀b∈h.blocks,b<X.heap.size:=by
 intro b hb
 obtain⟨o,ho,hb⟩:=List.mem_flatMap.1 hb
 exact(Qu h o ho).lt (H.ho o ho) b hb
theorem HP.Is.block {h:HP} {X Y:World} (H:h.Is X) (hb: ∀b∈h.blocks,Y.heap[b]? =X.heap[b]?):h.Is Y:=
 ⟨fun o ho=>(Qu h o ho).on (fun b hb'=>hb b (HP.mem_blocks ho hb')) (H.ho o ho),H.dis,H.low⟩
theorem HP.Is.on {h:HP} {X Y:World} (H:h.Is X) (k:Below X.heap.size X Y):h.Is Y:=H.block (fun b hb=>k.block b (H.lt b hb))
theorem HP.Is.sy {h:HP} {X:World} (H:h.Is X):Sy X X h.blocks h.things:=⟨Fr.refl _ _,Qu h,H.ho,fun o ho b hb=> .inl (HP.mem_blocks ho hb),H.dis⟩
def hpO (h:HP):Ob:=⟨h.blocks,h.Is⟩
theorem Zeq (h:HP):(hpO h).Ok:=⟨fun k H=>HP.Is.block H k,fun H b hb=>HP.Is.lt H b hb⟩
structure HP.To (h h':HP) (w w':World):Prop where
 is:h'.Is w'
 fr:Fr w w' h.blocks
 sub: ∀b∈h'.blocks,b∈h.blocks∨w.heap.size<=b
 hb:h'.b=h.b
theorem HP.Is.big {h:HP} {X:World} (H:h.Is X):7<=X.heap.size:=by
 have h1:h.b∈h.blocks:=HP.mem_blocks (o:=Av h.b (hcs h)) (List.mem_cons_self ..) (List.mem_singleton.2 rfl)
 have:=H.low _ h1
 have:=H.lt _ h1
 omega
theorem HP.To.of {h h':HP} {w Y:World} (H:h.Is w) (S:Sy w Y h.blocks h'.things) (hb:h'.b=h.b):h.To h' w Y:=by
 have sub: ∀b∈h'.blocks,b∈h.blocks∨w.heap.size<=b:=fun b hb=>by
  obtain⟨o,ho,hb⟩:=List.mem_flatMap.1 hb
  exact S.lo o ho b hb
 exact⟨⟨S.ho,S.dis,fun b hb=>(sub b hb).elim (H.low b) (fun h1=>by have:=H.big;omega)⟩,S.fr,sub,hb⟩
theorem HP.To.refl {h:HP} {w w':World} (H:h.Is w) (k:Below w.heap.size w w'):h.To h w w':=⟨H.on k,Fr.of_below k _,fun b hb=> .inl hb,rfl⟩
theorem HP.To.trans {h h' h2:HP} {w w' w2:World} (A:h.To h' w w') (B:h'.To h2 w' w2):h.To h2 w w2:=
 ⟨B.is,A.fr.trans B.fr (fun b hb=>A.sub b hb),fun b hb=>(B.sub b hb).elim (A.sub b) (fun h1=> .inr (Nat.le_trans A.fr.size h1)),B.hb.trans A.hb⟩
theorem Sy.heap {w X Y:World} {E:List Nat} {L:List Ob} {h h':HP} (S:Sy w X E L) (i:Nat) (hi:L[i]? =some (hpO h)) (A:h.To h' X Y):Sy w Y E (L.set i (hpO h')):=S.set i hi (Zeq h') A.is A.fr A.sub
theorem Sy.hp {w X:World} {E:List Nat} {L:List Ob} {h:HP} (S:Sy w X E L) (i:Nat) (hi:L[i]? =some (hpO h)):h.Is X:=S.get i hi
theorem HP.Is.start {h:HP} {w:World} (H:h.Is w):Sy w w h.blocks [hpO h]:=⟨Fr.refl _ _,fun o ho=>by rw[List.mem_singleton.1 ho];exact Zeq h,fun o ho=>by rw[List.mem_singleton.1 ho];exact H,fun o ho b hb=> .inl (by rw[List.mem_singleton.1 ho] at hb;exact hb),by simp⟩
theorem HP.To.end {h h':HP} {w Y:World} {L:List Ob} (H:h.Is w) (S:Sy w Y h.blocks (hpO h'::L)) (hb:h'.b=h.b):h.To h' w Y:=by
 have h1:h'.Is Y:=S.get 0 rfl
 exact⟨h1,S.fr,fun b hb=>S.lo _ (List.mem_cons_self ..) b hb,hb⟩
theorem HP.Is.blk {h:HP} {X:World} (H:h.Is X):Holds X h.b (hcs h):=(H.ho _ (List.mem_cons_self ..)).1
theorem HP.Is.own {h:HP} {X:World} (H:h.Is X):X.ownsRow 0 97 1 h.gv h.l.length (h.l.map OB.ptr):=H.ho _ (List.mem_cons_of_mem _ (List.mem_cons_self ..))
theorem HP.Is.ob {h:HP} {X:World} (H:h.Is X) {j:Nat} {o:OB} (hj:h.l[j]? =some o):Holds X o.b o.cs/\o.T.Is X/\o.b ∉ o.T.blocks:=H.ho (obO o) (List.mem_cons_of_mem _ (List.mem_cons_of_mem _ (List.mem_map_of_mem (List.mem_of_getElem? hj))))
theorem HP.Is.form {h:HP} {X:World} (H:h.Is X): ∃A c,h.gv= .slice A h.l.length c:=Ex H.own
theorem HP.Is.low_tab {h:HP} {X:World} (H:h.Is X) {j:Nat} {o:OB} (hj:h.l[j]? =some o): ∀b∈o.T.blocks,6<=b:=fun b hb=>H.low b (HP.mem_blocks (o:=obO o) (List.mem_cons_of_mem _ (List.mem_cons_of_mem _ (List.mem_map_of_mem (List.mem_of_getElem? hj)))) (List.mem_cons_of_mem _ hb))
theorem HP.Is.ptr {h:HP} {X:World} (H:h.Is X) {j:Nat} {o:OB} (hj:h.l[j]? =some o): ∃g c,h.gv= .slice (some ⟨g,0,none⟩) h.l.length c/\X.cell? ⟨g,j,none⟩=some o.ptr:=by
 have ho:=H.own
 rcases ho.2 with ⟨h1,h0⟩|⟨g,cap,cur,h1,h2,h3,h4,h5,h6,h7⟩
 ·have:=(List.getElem?_eq_some_iff.1 hj).1
  omega
 ·refine⟨g,cap,h1, ?_⟩
  have hlt:=(List.getElem?_eq_some_iff.1 hj).1
  have h8:(cur.toList.take (h.l.length * 1))[j]? =(h.l.map OB.ptr)[j]? :=by rw[h7]
  rw[List.getElem?_take,if_pos (by omega),List.getElem?_map,hj] at h8
  simp[World.cell?,h3]
  simpa using h8
theorem HP.Is.head {h h':HP} {X:World} (H:h.Is X) (p:Nat) (vs:List Value) (hp:p+vs.length<=5) (hb:h'.b=h.b) (hg:h'.gv=h.gv) (hl:h'.l=h.l) (hc:Bt (hcs h) p vs=hcs h'):h.To h' X (X.setCells h.b p vs):=by
 have S:=H.sy.put 0 (b:=h.b) (cs:=hcs h) rfl p vs (by simpa [hcs] using hp)
 rw[hc] at S
 have e:h.things.set 0 (Av h.b (hcs h'))=h'.things:=by
  unfold HP.things
  rw[hb,hg,hl]
  rfl
 rw[e] at S
 exact HP.To.of H S hb
theorem ZfR (h:HP) {j:Nat} {o:OB} (hj:h.l[j]? =some o):h.things[j+2]? =some (obO o):=by
 show (h.l.map obO)[j]? =_
 rw[List.getElem?_map,hj]
 rfl
theorem ZdT (h h':HP) (j:Nat) (o o':OB) (hj:h.l[j]? =some o) (hb:h'.b=h.b) (hg:hcs h'=hcs h) (hl:h'.l=h.l.set j o') (ho:o'.b=o.b):h.things.set (j+2) (obO o')=h'.things:=by
 have hgv:h'.gv=h.gv:=by
  have:=congrArg (fun l=>l[0]?) hg
  simpa [hcs] using this
 have hp:(h.l.set j o').map OB.ptr=h.l.map OB.ptr:=by
  rw[List.map_set]
  apply List.ext_getElem?
  intro i
  by_cases e:j=i
  ·subst e
   have hlt:=(List.getElem?_eq_some_iff.1 hj).1
   rw[List.getElem?_set_self (by simpa using hlt),List.getElem?_map,hj]
   simp[OB.ptr,ho]
  ·rw[List.getElem?_set_ne e]
 unfold HP.things
 rw[hb,hg,hl,hgv,hp,List.length_set,List.set_cons_succ,List.set_cons_succ,List.map_set]
theorem HP.Is.obj {h h':HP} {X Y:World} (H:h.Is X) {j:Nat} {o o':OB} (hj:h.l[j]? =some o) (hb:h'.b=h.b) (hg:hcs h'=hcs h) (hl:h'.l=h.l.set j o') (ho:o'.b=o.b) (hP:Holds Y o'.b o'.cs/\o'.T.Is Y/\o'.b ∉ o'.T.blocks) (hf:Fr X Y (o.b::o.T.blocks)) (hs: ∀b∈o'.T.blocks,b∈o.T.blocks∨X.heap.size<=b):h.To h' X Y:=by
 have S:=H.sy.set (j+2) (ZfR h hj) (Zek o') hP hf (fun b hb'=>by
  rcases List.mem_cons.1 hb' with rfl|h1
  ·exact .inl (by rw[ho];exact List.mem_cons_self ..)
  ·exact(hs b h1).imp (List.mem_cons_of_mem _) id)
 rw[ZdT h h' j o o' hj hb hg hl ho] at S
 exact HP.To.of H S hb
theorem HP.Is.cell {h h':HP} {X:World} (H:h.Is X) {j:Nat} {o o':OB} (hj:h.l[j]? =some o) (p:Nat) (vs:List Value) (hp:p+vs.length<=10) (hb:h'.b=h.b) (hg:hcs h'=hcs h) (hl:h'.l=h.l.set j o') (ho:o'.b=o.b) (hT:o'.T=o.T) (hc:Bt o.cs p vs=o'.cs):h.To h' X (X.setCells o.b p vs):=by
 obtain⟨h1,h2,h3⟩:=H.ob hj
 have hf:=Fr.setCells X o.b p vs
 refine H.obj hj hb hg hl ho ⟨?_, ?_, ?_⟩ (hf.mono (fun b hb'=> .inl (by rw[List.mem_singleton.1 hb'];exact List.mem_cons_self ..))) (fun b hb'=> .inl (hT▸hb'))
 ·rw[ho,←hc]
  exact h1.put p vs (by rw[Qx];exact hp)
 ·rw[hT]
  exact h2.block (fun b hb'=>hf.block b (h2.lt b hb') (fun e=>h3 (List.mem_singleton.1 e▸hb')))
 ·rw[hT,ho]
  exact h3
theorem HP.Is.table {h:HP} {X Y:World} (H:h.Is X) {j:Nat} {o:OB} (hj:h.l[j]? =some o) {T':TT} (hT:T'.Is Y) (ht:T'.t=o.T.t) (hf:Fr X Y o.T.blocks) (hs: ∀b∈T'.blocks,b∈o.T.blocks∨X.heap.size<=b):h.To {h with l:=h.l.set j {o with T:=T'}} X Y:=by
 obtain⟨h1,h2,h3⟩:=H.ob hj
 refine H.obj hj rfl rfl rfl (o':={o with T:=T'}) rfl ⟨?_,hT, ?_⟩ (hf.mono (fun b hb=> .inl (List.mem_cons_of_mem _ hb))) hs
 ·have e:({o with T:=T'}:OB).cs=o.cs:=by simp[OB.cs,ht]
  rw[e]
  exact h1.block (hf.block _ (h1.lt (by rw[Qx];omega)) h3)
 ·intro hb
  rcases hs _ hb with h4|h4
  ·exact h3 h4
  ·have:=h1.lt (by rw[Qx];omega)
   dsimp only at h4
   omega

section
variable {ops:Array Oper} {rest:List Oper} {Q:Exit->Act->World->Prop} {w w0:World} {a:Act} {o:Oper} {E:List Nat} {L:List Ob}
theorem stH {h:HP} (h':HP) {p:Nat} {vs:List Value} {v:Value} {x y:Operand} (i:Nat) (ty:TypeId)  (ho:o.op= .store ty x y) (hx:a.eval x= .pointer (some ⟨h.b,p,none⟩)) (hy:a.eval y=v)
  (hv:v.cells.toList=vs) (h1: ∀u∈vs,u.oneCell'=true) (hi:(Tryz.prog.info? ty).map (·.size)=some vs.length) (hL:Sy w0 w E L) (hg:L[i]? =some (hpO h)) (hp:p+vs.length<=5) (hb:h'.b=h.b) (hgv:h'.gv=h.gv) (hl:h'.l=h.l) (hc:Bt (hcs h) p vs=hcs h')
  (hh: ∀X,Sy w0 X E (L.set i (hpO h'))->wpList Tryz.prog ops Q rest (a.put o.dst undef) X) (hw:Region.wanted o (yielded ops a.tmps)=true:=by rfl):wpList Tryz.prog ops Q (o::rest) a w:=by
 refine BigFrame.wpList_want hw fun K hK=> ?_
 have H:=hL.hp i hg
 have hP:=hK _ _ (hh _ (hL.heap i hg (H.head p vs hp hb hgv hl hc)))
 unfold Oper.wp execOp
 simp only[ho,hx,hy,Instr.storeAt,Instr.sureAddr,Sem.run_bind,Sem.run_pure,Result.andThen_ok,Dw w h.b p ty v vs hv (H.blk.there p vs.length (by simpa [hcs] using hp)) hi h1]
 exact hP
theorem stO {h:HP} (h':HP) {j:Nat} {q q':OB} {p:Nat} {vs:List Value} {v:Value} {x y:Operand} (i:Nat) (ty:TypeId) (hw:Region.wanted o (yielded ops a.tmps)=true)  (hx:a.eval x= .pointer (some ⟨q.b,p,none⟩)) (hy:a.eval y=v)
  (hv:v.cells.toList=vs) (h1: ∀u∈vs,u.oneCell'=true) (hi:(Tryz.prog.info? ty).map (·.size)=some vs.length) (hL:Sy w0 w E L) (hg:L[i]? =some (hpO h)) (hj:h.l[j]? =some q) (hp:p+vs.length<=10) (hb:h'.b=h.b) (hgv:hcs h'=hcs h) (hl:h'.l=h.l.set j q') (hq:q'.b=q.b) (hT:q'.T=q.T) (hc:Bt q.cs p vs=q'.cs)
  (hh: ∀X,Sy w0 X E (L.set i (hpO h'))->wpList Tryz.prog ops Q rest (a.put o.dst undef) X) (ho:o.op= .store ty x y:=by rfl):wpList Tryz.prog ops Q (o::rest) a w:=by
 refine BigFrame.wpList_want hw fun K hK=> ?_
 have H:=hL.hp i hg
 have hP:=hK _ _ (hh _ (hL.heap i hg (H.cell hj p vs hp hb hgv hl hq hT hc)))
 unfold Oper.wp execOp
 simp only[ho,hx,hy,Instr.storeAt,Instr.sureAddr,Sem.run_bind,Sem.run_pure,Result.andThen_ok,Dw w q.b p ty v vs hv ((H.ob hj).1.there p vs.length (by rw[Qx];exact hp)) hi h1]
 exact hP
end
