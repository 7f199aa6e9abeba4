import Derived.Test.YthjnflilfjcgiaaGreatFmtRd
set_option linter.all false
namespace Go.Proofs.YthjnflilfjcgiaaGreatFmt
set_option maxRecDepth 100000
set_option maxHeartbeats 0
section
open Go Go.Proofs Go.Maps Go.RowKit Tryz
theorem run_mm (n:Nat) (w:World):(Instr.makeMap 167 (some (.int .i64 (n:Nat)))).run prog w= .ok (.map (some w.heap.size)) (w.alloc (.map #[] 0)):=by
 simp[Instr.makeMap,go_sem]
theorem siz69:(prog.info? 167).map (·.size)=some 1:=by kernel_rfl
theorem ex_mm {o:Oper} {a:Act} {w:World} {x:Operand} {n:Nat} (ho:o.op= .makeMap 167 (some x)) (hx:a.eval x= .int .i64 (n:Nat)):(execOp a.eval o).run prog w= .ok (.value (.map (some w.heap.size))) (w.alloc (.map #[] 0)):=by
 unfold execOp
 simp only[ho,hx,Option.map_some]
 simp[run_mm]
theorem rdw {ops:Array Oper} {rest:List Oper} {Q:Exit->Act->World->Prop} {w X:World} {a:Act} {o:Oper} {v:Value} (hw:Region.wanted o (yielded ops a.tmps)=true) (hy:(execOp a.eval o).run prog w= .ok (.value v) X) (h:wpList prog ops Q rest (a.put o.dst v) X):wpList prog ops Q (o::rest) a w:=by
 refine BigFrame.wpList_want hw fun K hK=> ?_
 have hP:=hK _ _ h
 unfold Oper.wp
 rw[hy]
 exact hP
def fnd (l:List RR) (k:KK):Option Nat:=(l.find? (fun r=>decide (r.k=k))).map (·.b)
theorem fnd_take {l:List RR} (hp:l.Pairwise (fun a b=>a.k≠b.k)) {j:Nat} (hj:j<l.length):fnd (l.take j) l[j].k=none/\putF (fnd (l.take j)) l[j].k (some l[j].b)=fnd (l.take (j+1)):=by
 have hno: ∀r∈l.take j,r.k≠l[j].k:=by
  intro r hr
  obtain⟨i,hi,rfl⟩:=List.mem_take_iff_getElem.1 hr
  exact List.pairwise_iff_getElem.1 hp i j (by omega) hj (by omega)
 have h0:(l.take j).find? (fun r=>decide (r.k=l[j].k))=none:=by
  rw[List.find?_eq_none]
  intro r hr
  simpa using hno r hr
 refine⟨by unfold fnd;rw[h0];rfl, ?_⟩
 funext q
 unfold fnd
 rw[List.take_succ_eq_append_getElem hj,List.find?_append]
 by_cases e:q=l[j].k
 ·subst e
  rw[h0,putF_same]
  simp
 ·rw[putF_other e]
  have e2:([l[j]]:List RR).find? (fun r=>decide (r.k=q))=none:=by
   simp
   exact fun h=>e h.symm
  rw[e2]
  simp
structure CPk (T:TT) (w1 wr:World) (A:Option Addr) (n c M j:Nat):Prop where
 tab:Holds wr T.t [.map (some M), .slice A n c, .int .u64 T.last]
 map:MapIs wr M j j (fnd (T.live.take j))
 fr:Fr w1 wr [T.t]
theorem compact18 (T:TT) (w:World) (hT:T.Is w) (hl:T.last<100000):Calls prog 213 #[.pointer (some ⟨T.t,0,none⟩)] w fun e w'=>e= .returned (.tuple #[])/\ ∃m rv,(T.packed m rv).Is w'/\Fr w w' [T.t]/\(∀b∈(T.packed m rv).blocks,b∈T.blocks∨w.heap.size<=b):=by
 have C39:=hide (closeGaps39 T w hT hl)
 have HT:=hide hT
 have hlen:=hT.len
 have hlv:=T.live_le
 obtain⟨n,hn⟩: ∃n,n=T.live.length:=⟨_,rfl⟩
 have hn1:n<=100000:=by omega
 have hnl:Hid (n<=T.last):=hide (by omega)
 have Hn:=hide hn
 clear hT hlen hlv hl hn
 go_enter func213,ntmps213
 go_wp2_with fail
 refine(uh C39).mono ?_
 clear C39
 rintro _ w1 ⟨rfl,rv,hT1,hf1,hb1⟩
 obtain⟨A,c,hrv⟩:=own_form hT1.own
 replace hrv:rv= .slice A n c:=by
  rw[uh Hn]
  simpa [TT.packed] using hrv
 subst hrv
 have HV:Hid (Holds w1 T.t [.map (some T.m), .slice A n c, .int .u64 T.last]):=hide hT1.tab
 have HT1:=hide hT1
 have HF1:=hide hf1
 have HB1:=hide hb1
 have HAP:=hide (TT.apart hT1.nd)
 have htl:Hid (T.t<w1.heap.size):=hide (hT1.lt T.t (by simp[TT.blocks,TT.packed]))
 clear hT1 hf1 hb1
 go_wp2_with (first|go_skip|((with_reducible show wpList ..);first|((refine rd rfl (ex_load1 168 isAgg168 rfl rfl (uh HV) rfl) ?_);simp only[nn])|((refine rdw (by rfl) (ex_mm rfl rfl) ?_);obtain⟨M,hM⟩: ∃M,M=w1.heap.size:=⟨_,rfl⟩;obtain⟨w2,hw2⟩: ∃w2,w2=w1.alloc (.map #[] 0):=⟨_,rfl⟩;have HM:=hide hM;have hb2:Below w1.heap.size w1 w2:=(by rw[hw2];exact(Below.refl _ _).alloc (Nat.le_refl _) _);have HMP:Hid (MapIs w2 M 0 0 (fnd (T.live.take 0))):=hide (by rw[hw2,hM];exact MapIs.made w1);rw[←hw2,←hM];replace HV:=hide ((uh HV).block (hb2.block T.t (uh htl)));have HB2:=hide hb2;clear hw2 hM hb2;simp only[nn])|((with_reducible apply stx (t:=167) (b:=T.t) (p:=0) (cs:= [.map (some T.m), .slice A n c, .int .u64 T.last]) (vs:= [.map (some M)]) (v:= .map (some M)));(case hw=>rfl);(case ho=>rfl);(case hx=>rfl);(case hy=>rfl);(case hv=>exact rfl);(case h1=>exact(by simp[Value.oneCell']));(case hi=>exact siz69);(case hH=>exact uh HV);(case hp=>exact(by simp));(obtain⟨w3,hw3⟩: ∃w3,w3=w2.setCells T.t 0 [.map (some M)]:=⟨_,rfl⟩);(have HC:Hid (CPk T w1 w3 A n c M 0):=hide ⟨(by rw[hw3];exact(uh HV).put 0 [.map (some M)] (by simp)),(by rw[hw3];exact(uh HMP).block (heap_setCells _ _ _ _ _ (by have h1:=uh HM;have h2:=uh htl;omega))),(by rw[hw3];exact(Fr.of_below (uh HB2) [T.t]).trans (Fr.setCells _ _ _ _) (fun b hb=> .inl hb))⟩);rw[←hw3];replace HV:=hide (uh HC).tab;clear hw3;simp only[nn])))
 clear HV HMP HB2
 go_loopg [3,20] n (fun gm s3 s20 wr=> ∃j:Nat,s20= .int .i64 j/\j<=n/\n - j<=gm/\Hid (CPk T w1 wr A n c M j))
 case atStart=>exact⟨0,rfl,by omega,by omega,HC⟩
 case round=>
  obtain⟨j,rfl,hj,hg,HR⟩:=hrel
  by_cases hjl:j<n
  ·have hjz:(j:Int)<n:=by omega
   have hjr:j<T.live.length:=by have:=uh Hn;omega
   have hown:w1.ownsRow 0 171 1 (.slice A (T.live.map (·.b)).length c) (T.live.map (·.b)).length (ptrs (T.live.map (·.b))):=by
    have h1:=(uh HT1).own
    have e:=uh Hn
    unfold OwnP TT.packed at h1
    simp only at h1
    rw[List.length_map,←e] at h1 ⊢
    exact h1
   obtain⟨g,rfl, -,hgl⟩:=own_some hown (by simp;omega)
   have hgt:g≠T.t:=((uh HAP).tv g rfl).1
   have HG:Hid (Holds wr g (ptrs (T.live.map (·.b)))):=hide ((own_holds hown).block ((uh HR).fr.block g hgl (by simpa using hgt)))
   obtain⟨r,hr⟩: ∃r,r=T.live[j]:=⟨_,rfl⟩
   have hrm:r∈T.live:=hr▸List.getElem_mem hjr
   have HP:Hid ((ptrs (T.live.map (·.b)))[0+j]? =some (.pointer (some ⟨r.b,0,none⟩))):=hide (by rw[hr];exact ptrs_get T.live j hjr)
   have hrt:r.b≠T.t:=fun e=>(uh HAP).tr (e▸List.mem_map.2 ⟨r,hrm,rfl⟩)
   have hrl:=((uh HT1).rows r hrm).lt (by simp[rcs_length])
   have HRr:Hid (Holds wr r.b r.cs):=hide (((uh HT1).rows r hrm).block ((uh HR).fr.block r.b hrl (by simpa using hrt)))
   have HOK:=hide (good_ok ((uh HT).good r hrm))
   have HFN:=hide (fnd_take (uh HT).keys hjr)
   rw[←hr] at HFN
   have HMr:Hid (T.t≠M/\r.b≠M):=hide ⟨by have h1:=uh HM;have h2:=uh htl;omega,by have h1:=uh HM;omega⟩
   have hjM:Hid (j<maxLen):=hide (by unfold maxLen;omega)
   clear hr hrm hrt hrl hown hgt hgl
   go_wp2_with (first|go_skip|((with_reducible show wpList ..);first|((refine rd rfl (ex_index70 (off:=0) j rfl rfl rfl hjl) ?_);simp only[nn])|((refine rd rfl (ex_load1 171 isAgg171 rfl rfl (uh HG) (uh HP)) ?_);simp only[nn])))
   refine wp_region_held_drew (P:=prog) (S:=fun X=>Holds X T.t [.map (some M), .slice (some ⟨g,0,none⟩) n c, .int .u64 T.last]/\Holds X r.b r.cs) (by kernel_rfl) ⟨(uh HR).tab.block rfl,(uh HRr).block rfl⟩ (fun hS0=> ?_)
   refine gsem 0 (some 24) (.pointer (some ⟨T.t,0,none⟩)) rfl (by kernel_rfl) (by kernel_rfl) (by kernel_rfl) (fun _ _ _ h=>h) (by kernel_rfl) (by kernel_rfl) (fun _ _=>by kernel_rfl) hS0 ?_
   simp only[nn]
   refine gsem 1 (some 25) (.pointer (some ⟨T.t,0,none⟩)) rfl (by kernel_rfl) (by kernel_rfl) (by kernel_rfl) (fun _ _ _ h=>h) (by kernel_rfl) (by kernel_rfl) (fun _ _=>by kernel_rfl) hS0 ?_
   simp only[nn]
   refine gsem 2 (some 26) (.pointer (some ⟨T.t,0,none⟩)) rfl (by kernel_rfl) (by kernel_rfl) (by kernel_rfl) (fun _ _ _ h=>h) (by kernel_rfl) (by kernel_rfl) (fun _ _=>by kernel_rfl) hS0 ?_
   simp only[nn]
   refine gsem 3 (some 27) (.map (some M)) rfl (by kernel_rfl) (by kernel_rfl) (by kernel_rfl) (fun _ _ _ h=>h) (by kernel_rfl) (by kernel_rfl) (fun X hX=>ex_load1 167 isAgg167 rfl rfl (hX.1) rfl) hS0 ?_
   simp only[nn]
   refine gsem 4 (some 28) (.pointer (some ⟨r.b,0,none⟩)) rfl (by kernel_rfl) (by kernel_rfl) (by kernel_rfl) (fun _ _ _ h=>h) (by kernel_rfl) (by kernel_rfl) (fun _ _=>by kernel_rfl) hS0 ?_
   simp only[nn]
   refine gsem 5 (some 29) (.pointer (some ⟨r.b,0,none⟩)) rfl (by kernel_rfl) (by kernel_rfl) (by kernel_rfl) (fun _ _ _ h=>h) (by kernel_rfl) (by kernel_rfl) (fun _ _=>by kernel_rfl) hS0 ?_
   simp only[nn]
   refine gsem 6 (some 30) (.pointer (some ⟨r.b,0,none⟩)) rfl (by kernel_rfl) (by kernel_rfl) (by kernel_rfl) (fun _ _ _ h=>h) (by kernel_rfl) (by kernel_rfl) (fun _ _=>by kernel_rfl) hS0 ?_
   simp only[nn]
   refine gsem 7 (some 31) (.pointer (some ⟨r.b,0,none⟩)) rfl (by kernel_rfl) (by kernel_rfl) (by kernel_rfl) (fun _ _ _ h=>h) (by kernel_rfl) (by kernel_rfl) (fun _ _=>by kernel_rfl) hS0 ?_
   simp only[nn]
   refine gsem 8 (some 32) (r.k.agg) rfl (by kernel_rfl) (by kernel_rfl) (by kernel_rfl) (fun _ _ _ h=>h) (by kernel_rfl) (by kernel_rfl) (fun X hX=>ex_loadN (vs:=r.k.cs) 42 2 row33x siz33 rfl rfl (hX.2) rfl rfl) hS0 ?_
   simp only[nn]
   refine gsem 9 (some 33) (.pointer (some ⟨r.b,0,none⟩)) rfl (by kernel_rfl) (by kernel_rfl) (by kernel_rfl) (fun _ _ _ h=>h) (by kernel_rfl) (by kernel_rfl) (fun _ _=>by kernel_rfl) hS0 ?_
   simp only[nn]
   refine wpAnyH_ready (rs:= [10]) (by kernel_rfl) (by simp) (gupd (r:=r.b) 10 rfl (by kernel_rfl) (by kernel_rfl) rfl rfl rfl rfl ((uh HR).map.block rfl) (uh HOK) (uh hjM) (fun X hX=>⟨hS0.1.block (hX.block T.t (hS0.1.lt (by simp)) (by simpa using (uh HMr).1)),hS0.2.block (hX.block r.b (hS0.2.lt (by simp[rcs_length])) (by simpa using (uh HMr).2))⟩) ?_ AllReadyH.nil)
   intro X hM6 hX6
   have HR6:Hid (CPk T w1 X (some ⟨g,0,none⟩) n c M (j+1)):=hide ⟨hS0.1.block (hX6.block T.t (hS0.1.lt (by simp)) (by simpa using (uh HMr).1)),(by have h1:=hM6;rw[(uh HFN).1,(uh HFN).2] at h1;exact h1),((uh HR).fr.drew.trans hX6 (fun b hb=>Or.inr (by have h1:=uh HM;obtain rfl:b=M:=(by simpa using hb);omega)))⟩
   replace hS0:=And.intro (hS0.1.block (hX6.block T.t (hS0.1.lt (by simp)) (by simpa using (uh HMr).1))) (hS0.2.block (hX6.block r.b (hS0.2.lt (by simp[rcs_length])) (by simpa using (uh HMr).2)))
   clear hM6 hX6
   simp only[nn]
   refine wpAnyH_done (by kernel_rfl) ?_ _
   try simp only[nn]
   clear hS0
   go_wp2
   go_roundg (n - (j+1))
   case measure=>omega
   case rel=>exact⟨j+1,by go_num,by omega,Nat.le_refl _,HR6⟩
  ·have hjz: ¬(j:Int)<n:=by omega
   have hjn:j=n:=by omega
   subst hjn
   go_wp2
   go_end0
   have hC:=uh HR
   have hTT:=uh HT1
   have hap:=uh HAP
   have e:=uh Hn
   have htk:T.live.take j=T.live:=by rw[e,List.take_length]
   have hmp:=hC.map
   rw[htk] at hmp
   have hM:=uh HM
   have hs1:=(uh HF1).size
   have hlt:=(uh HT).lt
   have hrv: ∀b,(Value.slice A j c).ownBlock=some b->(T.rv.ownBlock=some b∨b ∉ T.blocks)/\b≠M:=fun b hb=>by
    refine⟨((uh HB1) b hb).imp id (fun h1 hm=>by have:=hlt b hm;omega), ?_⟩
    have:=World.ownsRow.lt hTT.own b hb
    omega
   refine⟨rfl,M, .slice A j c,TT.Is.pack (uh HT) hC.tab ?_ ?_ (fun r hr=> ?_) (.inr (fun hm=>by have:=hlt M hm;omega)) hrv, ?_, ?_⟩
   ·have h1:=hmp.mono (uh hnl)
    rw[←e]
    exact h1
   ·exact hTT.own.block (fun b hb=>hC.fr.block b (World.ownsRow.lt hTT.own b hb).2 (fun hm=>(hap.tv b hb).1 (by show b=T.t;simpa using hm)))
   ·have h2:=hTT.rows r hr
    exact h2.block (hC.fr.block r.b (h2.lt (by simp[rcs_length])) (by simpa using fun e:r.b=T.t=>hap.tr (e▸List.mem_map.2 ⟨r,hr,rfl⟩)))
   ·exact(uh HF1).trans hC.fr (fun b hb=> .inl hb)
   ·intro b hb
    simp only[TT.blocks,TT.packed,List.mem_cons,List.mem_append] at hb ⊢
    rcases hb with h1|h1|h1|h1
    ·exact .inl (.inl h1)
    ·exact .inr (by omega)
    ·rcases (uh HB1) b (by simpa using h1) with h2|h2
     ·exact .inl (.inr (.inr (.inl (by rw[h2];simp))))
     ·exact .inr h2
    ·exact .inl (.inr (.inr (.inr (live_sub T b h1))))
def leftR (b:Nat) (q:RR):RR:=if q.b=b then goneR q else q
theorem leftR_b (b:Nat) (q:RR):(leftR b q).b=q.b/\(leftR b q).n=q.n:=by
 unfold leftR goneR
 split<;>exact⟨rfl,rfl⟩
def TT.left (T:TT) (b:Nat):TT:={T with rows:=T.rows.map (leftR b)}
theorem TT.left_live (T:TT) (b:Nat):(T.left b).live=T.live.filter (fun q=>decide (q.b≠b)):=by
 unfold TT.left TT.live
 simp only
 induction T.rows with
 |nil=>rfl
 |cons q l ih=>
  simp only[List.map_cons,List.filter_cons]
  by_cases h:q.b=b
  ·rw[show leftR b q=goneR q from if_pos h]
   cases hg:q.gone
   ·rw[if_neg (by simp[goneR]),if_pos (by simp),List.filter_cons,if_neg (by simp[h])]
    exact ih
   ·rw[if_neg (by simp[goneR]),if_neg (by simp)]
    exact ih
  ·rw[show leftR b q=q from if_neg h]
   cases hg:q.gone
   ·rw[if_pos (by simp),if_pos (by simp),List.filter_cons,if_pos (by simp[h]),ih]
   ·rw[if_neg (by simp),if_neg (by simp)]
    exact ih
theorem find_congr {α:Type} {p q:α->Bool}: ∀{l:List α},(∀x∈l,p x=q x)->l.find? p=l.find? q
 | [],_=>rfl
 |x::l,h=>by
  rw[List.find?_cons,List.find?_cons,h x (by simp),find_congr (fun y hy=>h y (by simp[hy]))]
theorem rows_pair {T:TT} (h:TApart T):T.rows.Pairwise (fun a b=>a.b≠b.b):=by
 have:=h.rr
 unfold List.Nodup at this
 rwa [List.pairwise_map] at this
theorem live_mem {T:TT} {r:RR} (h:r∈T.live):r∈T.rows:=(List.mem_filter.1 h).1
theorem block_key {T:TT} {w:World} (hT:T.Is w) {r q:RR} (hr:r∈T.live) (hq:q∈T.live):q.b=r.b↔q.k=r.k:=by
 constructor
 ·intro e
  rw[pair_inj (f:=RR.b) (rows_pair (TT.apart hT.nd)) (live_mem hq) (live_mem hr) e]
 ·intro e
  rw[pair_inj (f:=RR.k) hT.keys hq hr e]
theorem TT.left_live' {T:TT} {w:World} (hT:T.Is w) {r:RR} (hr:r∈T.live):(T.left r.b).live=T.live.filter (fun q=>decide (q.k≠r.k)):=by
 rw[TT.left_live]
 apply List.filter_congr
 intro q hq
 have:=block_key hT hr hq
 simp[this]
theorem TT.left_find {T:TT} {w:World} (hT:T.Is w) {r:RR} (hr:r∈T.live):(fun q=>((T.left r.b).find q).map (·.b))=putF (fun q=>(T.find q).map (·.b)) r.k none:=by
 funext q
 unfold TT.find
 rw[TT.left_live' hT hr,List.find?_filter]
 by_cases e:q=r.k
 ·subst e
  rw[putF_same]
  have:T.live.find? (fun a=>decide (decide (a.k≠r.k)=true/\decide (a.k=r.k)=true))=none:=by
   rw[List.find?_eq_none]
   intro x _
   simp
  rw[this]
  rfl
 ·rw[putF_other e]
  congr 1
  apply find_congr
  intro x _
  by_cases e2:x.k=q
  ·have:x.k≠r.k:=fun e3=>e (e2▸e3)
   simp[e2]
   exact fun e3=>e e3
  ·simp[e2]
theorem TT.left_len {T:TT} {w:World} (hT:T.Is w) {r:RR} (hr:r∈T.live):(T.left r.b).live.length=T.live.length - 1:=by
 rw[TT.left_live' hT hr]
 obtain⟨a,b,e⟩:=List.append_of_mem hr
 have hp:=hT.keys
 rw[e] at hp ⊢
 have h1:=List.pairwise_append.1 hp
 have h2:=List.pairwise_cons.1 h1.2.1
 have ha:a.filter (fun q=>decide (q.k≠r.k))=a:=by
  rw[List.filter_eq_self]
  intro x hx
  simpa using h1.2.2 x hx r (by simp)
 have hb:b.filter (fun q=>decide (q.k≠r.k))=b:=by
  rw[List.filter_eq_self]
  intro x hx
  simpa using (h2.1 x hx).symm
 rw[List.filter_append,List.filter_cons,ha,hb]
 simp
theorem TT.Is.left {T:TT} {w X:World} {r:RR} (hT:T.Is w) (hr:r∈T.live) (htab:Holds X T.t T.cs) (hmap:MapIs X T.m T.last (T.live.length - 1) (putF (fun k=>(T.find k).map (·.b)) r.k none)) (hown:OwnP X T.rv (T.rows.map (·.b))) (hrest: ∀q∈T.rows,q.b≠r.b->Holds X q.b q.cs) (hg:Holds X r.b (goneR r).cs):(T.left r.b).Is X:=by
 have hbs:(T.left r.b).rows.map (·.b)=T.rows.map (·.b):=by
  unfold TT.left
  simp only[List.map_map]
  apply List.map_congr_left
  intro q _
  exact(leftR_b r.b q).1
 have hsub: ∀q∈(T.left r.b).live,q∈T.live:=fun q hq=>by
  rw[TT.left_live] at hq
  exact(List.mem_filter.1 hq).1
 refine⟨htab, ?_, ?_, ?_, ?_, ?_, ?_, ?_,fun q hq=>hT.good q (hsub q hq)⟩
 ·rw[TT.left_find hT hr,TT.left_len hT hr]
  exact hmap
 ·rw[hbs]
  exact hown
 ·intro q hq
  obtain⟨p,hp,rfl⟩:=List.mem_map.1 hq
  by_cases e:p.b=r.b
  ·have:=pair_inj (f:=RR.b) (rows_pair (TT.apart hT.nd)) hp (live_mem hr) e
   subst this
   unfold leftR
   rw[if_pos rfl]
   exact hg
  ·unfold leftR
   rw[if_neg e]
   exact hrest p hp e
 ·have h:=hT.nd
  unfold TT.blocks at h ⊢
  rw[hbs]
  exact h
 ·show (T.rows.map (leftR r.b)).Pairwise _
  rw[List.pairwise_map]
  refine hT.rise.imp ?_
  intro a b h
  rw[(leftR_b r.b a).2,(leftR_b r.b b).2]
  exact h
 ·intro q hq
  obtain⟨p,hp,rfl⟩:=List.mem_map.1 hq
  rw[(leftR_b r.b p).2]
  exact hT.num p hp
 ·rw[TT.left_live]
  exact hT.keys.sublist List.filter_sublist
theorem TT.left_blocks (T:TT) (b:Nat):(T.left b).blocks=T.blocks:=by
 unfold TT.blocks TT.left
 simp only[List.map_map]
 congr 3
 apply List.map_congr_left
 intro q _
 exact(leftR_b b q).1
theorem gdel {md:Region.Mode} {ops:Array Oper} {Q:Exit->Act->World->Prop} {S:World->Prop} {w:World} {fuel:Nat} {listed:Array Bool} {a:Act} {o:Oper} (i:Nat) {m x:Operand} {b n sz:Nat} {F:KK->Option Nat} {k:KK} {rs:List Nat} (hi:ops[i]? =some o) (hd:o.dst=none) (hw:Region.wanted o (yielded ops a.tmps)=true)
  (ho:o.op= .call {callee:= .builtin .delete,args:= #[m,x],argTypes:= #[167,42]}) (hm:a.eval m= .map (some b)) (hx:a.eval x=k.agg) (h:MapIs w b n sz F) (hk:OkK k) (hon: ∀X,Fr w X [b]->S X)
  (hh: ∀X,MapIs X b n (if (F k).isSome then sz - 1 else sz) (putF F k none)->Fr w X [b]->wpAnyH prog md ops Q S fuel (listed.setIfInBounds i true) (a.put none (.tuple #[])) X) (hs:AllReadyH prog md ops Q S fuel listed a w rs):AllReadyH prog md ops Q S fuel listed a w (i::rs):=by
 obtain⟨X,h1,h2,h3⟩:=h.drop hk o.type
 refine gval i none hi hd hw (V:= .tuple #[]) (X:=X) ?_ (hon X (Fr.grown h3.grown)) (hh X h2 (Fr.grown h3.grown)) hs
 simp[execOp,ho,resolve,invoke,builtin,hm,hx,h1,Result.andThen]
theorem delete14 (T:TT) (k:KK) (w:World) (hT:T.Is w) (hk:OkK k) (hl:T.last<100000):Calls prog 198 #[.pointer (some ⟨T.t,0,none⟩),k.agg] w fun e w'=>e= .returned (.bool (T.find k).isSome)/\ ∃T':TT,T'.Is w'/\T'.t=T.t/\T'.last=T.last/\Fr w w' T.blocks/\(∀b∈T'.blocks,b∈T.blocks∨w.heap.size<=b)/\T'.live=T.live.filter (fun q=>decide (q.k≠k)):=by
 cases hf:T.find k with
 |none=>
  have hlv:T.live.filter (fun q=>decide (q.k≠k))=T.live:=by
   rw[List.filter_eq_self]
   intro q hq
   simpa using TT.find_none hf q hq
  rw[hlv]
  clear hlv
  have HT:=hide (hT.on ((Below.refl _ _).alloc (Nat.le_refl _) (Obj.cells k.cs.toArray 42)))
  have LL:=hide ((Hq.nil w T.blocks).new k.cs 42 (Nat.succ_pos _))
  have HL:=hide hT.lt
  clear hT
  rw[show k.agg= .agg k.cs.toArray from rfl]
  go_enter func198,ntmps198
  go_wp2
  refine wp_region_held_drew (P:=prog) (S:=fun X=>T.Is X/\Hq w X T.blocks [(w.heap.size,k.cs)]) (by kernel_rfl) ⟨(uh HT).drew,(uh LL).drew⟩ (fun hS0=> ?_)
  refine gsem 0 (some 8) (.pointer (some ⟨T.t,0,none⟩)) rfl (by kernel_rfl) (by kernel_rfl) (by kernel_rfl) (fun _ _ _ h=>h) (by kernel_rfl) (by kernel_rfl) (fun _ _=>by kernel_rfl) hS0 ?_
  simp only[nn]
  refine gsem 1 (some 9) (.pointer (some ⟨T.t,0,none⟩)) rfl (by kernel_rfl) (by kernel_rfl) (by kernel_rfl) (fun _ _ _ h=>h) (by kernel_rfl) (by kernel_rfl) (fun _ _=>by kernel_rfl) hS0 ?_
  simp only[nn]
  refine gsem 2 (some 10) (.pointer (some ⟨T.t,0,none⟩)) rfl (by kernel_rfl) (by kernel_rfl) (by kernel_rfl) (fun _ _ _ h=>h) (by kernel_rfl) (by kernel_rfl) (fun _ _=>by kernel_rfl) hS0 ?_
  simp only[nn]
  refine gsem 3 (some 11) (.map (some T.m)) rfl (by kernel_rfl) (by kernel_rfl) (by kernel_rfl) (fun _ _ _ h=>h) (by kernel_rfl) (by kernel_rfl) (fun X hX=>ex_load1 167 isAgg167 rfl rfl (hX.1.tab) rfl) hS0 ?_
  simp only[nn]
  refine gsem 4 (some 12) (k.agg) rfl (by kernel_rfl) (by kernel_rfl) (by kernel_rfl) (fun _ _ _ h=>h) (by kernel_rfl) (by kernel_rfl) (fun X hX=>ex_loadN (vs:=k.cs) 42 2 row33x siz33 rfl rfl (hX.2.get 0 rfl) rfl rfl) hS0 ?_
  simp only[nn]
  refine gsem 5 (some 13) (.tuple #[pv (none), .bool false]) rfl (by kernel_rfl) (by kernel_rfl) (by kernel_rfl) (fun _ _ _ h=>h) (by kernel_rfl) (by kernel_rfl) (fun X hX=>ex_look (r:=none) rfl rfl rfl hX.1.map hk (by rw[hf];rfl)) hS0 ?_
  simp only[nn]
  refine gsem 6 (some 7) (.tuple #[pv (none), .bool false]) rfl (by kernel_rfl) (by kernel_rfl) (by kernel_rfl) (fun _ _ _ h=>h) (by kernel_rfl) (by kernel_rfl) (fun _ _=>by kernel_rfl) hS0 ?_
  simp only[nn]
  refine gsem 7 (some 14) (pv (none)) rfl (by kernel_rfl) (by kernel_rfl) (by kernel_rfl) (fun _ _ _ h=>h) (by kernel_rfl) (by kernel_rfl) (fun _ _=>by kernel_rfl) hS0 ?_
  simp only[nn]
  refine gsem 9 (some 5) (pv (none)) rfl (by kernel_rfl) (by kernel_rfl) (by kernel_rfl) (fun _ _ _ h=>h) (by kernel_rfl) (by kernel_rfl) (fun _ _=>by kernel_rfl) hS0 ?_
  simp only[nn]
  refine gsem 8 (some 15) (.bool false) rfl (by kernel_rfl) (by kernel_rfl) (by kernel_rfl) (fun _ _ _ h=>h) (by kernel_rfl) (by kernel_rfl) (fun _ _=>by kernel_rfl) hS0 ?_
  simp only[nn]
  refine gsem 10 (some 6) (.bool false) rfl (by kernel_rfl) (by kernel_rfl) (by kernel_rfl) (fun _ _ _ h=>h) (by kernel_rfl) (by kernel_rfl) (fun _ _=>by kernel_rfl) hS0 ?_
  simp only[nn]
  refine wpAnyH_done (by kernel_rfl) ?_ _
  try simp only[nn]
  replace HT:=hide hS0.1
  replace LL:=hide hS0.2
  clear hS0
  go_wp2
  go_ret
  exact⟨rfl,T,uh HT,rfl,rfl,(uh LL).fr,fun b hb=> .inl hb,rfl⟩
 |some r=>
  have hrl:r∈T.live:=List.mem_of_find?_eq_some hf
  obtain⟨-,hgn,hrk⟩:=TT.find_mem hf
  have HRL:=hide (And.intro hrl hrk)
  have H2:Hid (∀X,(T.left r.b).Is X->Calls prog 212 #[.pointer (some ⟨T.t,0,none⟩)] X fun e w'=>e= .returned (.int .i64 (((T.left r.b).rows.length - (T.left r.b).live.length:Nat):Int))/\Below X.heap.size X w'):=hide (fun X hX=>gaps38 (T.left r.b) X hX (by have:=hX.len;have e:(T.left r.b).last=T.last:=rfl;omega))
  have H3:Hid (∀X,(T.left r.b).Is X->Calls prog 88 #[.pointer (some ⟨T.t,0,none⟩)] X fun e w'=>e= .returned (.int .i64 (T.left r.b).live.length)/\w'=X):=hide (fun X hX=>len30 (T.left r.b) X hX)
  have H4:Hid (∀X,(T.left r.b).Is X->Calls prog 213 #[.pointer (some ⟨T.t,0,none⟩)] X fun e w'=>e= .returned (.tuple #[])/\ ∃m rv,((T.left r.b).packed m rv).Is w'/\Fr X w' [T.t]/\(∀b∈((T.left r.b).packed m rv).blocks,b∈(T.left r.b).blocks∨X.heap.size<=b)):=hide (fun X hX=>compact18 (T.left r.b) X hX hl)
  have HLV:Hid ((T.left r.b).live=T.live.filter (fun q=>decide (q.k≠k))):=hide (by rw[TT.left_live' hT hrl,hrk])
  have HAP:=hide (TT.apart hT.nd)
  have hk2:=hide hk
  have hf2:=hide hf
  clear hrl hrk hgn hl
  have HT:=hide (hT.on ((Below.refl _ _).alloc (Nat.le_refl _) (Obj.cells k.cs.toArray 42)))
  have LL:=hide ((Hq.nil w T.blocks).new k.cs 42 (Nat.succ_pos _))
  have HL:=hide hT.lt
  clear hT
  rw[show k.agg= .agg k.cs.toArray from rfl]
  go_enter func198,ntmps198
  go_wp2
  refine wp_region_held_drew (P:=prog) (S:=fun X=>T.Is X/\Hq w X T.blocks [(w.heap.size,k.cs)]) (by kernel_rfl) ⟨(uh HT).drew,(uh LL).drew⟩ (fun hS0=> ?_)
  refine gsem 0 (some 8) (.pointer (some ⟨T.t,0,none⟩)) rfl (by kernel_rfl) (by kernel_rfl) (by kernel_rfl) (fun _ _ _ h=>h) (by kernel_rfl) (by kernel_rfl) (fun _ _=>by kernel_rfl) hS0 ?_
  simp only[nn]
  refine gsem 1 (some 9) (.pointer (some ⟨T.t,0,none⟩)) rfl (by kernel_rfl) (by kernel_rfl) (by kernel_rfl) (fun _ _ _ h=>h) (by kernel_rfl) (by kernel_rfl) (fun _ _=>by kernel_rfl) hS0 ?_
  simp only[nn]
  refine gsem 2 (some 10) (.pointer (some ⟨T.t,0,none⟩)) rfl (by kernel_rfl) (by kernel_rfl) (by kernel_rfl) (fun _ _ _ h=>h) (by kernel_rfl) (by kernel_rfl) (fun _ _=>by kernel_rfl) hS0 ?_
  simp only[nn]
  refine gsem 3 (some 11) (.map (some T.m)) rfl (by kernel_rfl) (by kernel_rfl) (by kernel_rfl) (fun _ _ _ h=>h) (by kernel_rfl) (by kernel_rfl) (fun X hX=>ex_load1 167 isAgg167 rfl rfl (hX.1.tab) rfl) hS0 ?_
  simp only[nn]
  refine gsem 4 (some 12) (k.agg) rfl (by kernel_rfl) (by kernel_rfl) (by kernel_rfl) (fun _ _ _ h=>h) (by kernel_rfl) (by kernel_rfl) (fun X hX=>ex_loadN (vs:=k.cs) 42 2 row33x siz33 rfl rfl (hX.2.get 0 rfl) rfl rfl) hS0 ?_
  simp only[nn]
  refine gsem 5 (some 13) (.tuple #[pv (some r.b), .bool true]) rfl (by kernel_rfl) (by kernel_rfl) (by kernel_rfl) (fun _ _ _ h=>h) (by kernel_rfl) (by kernel_rfl) (fun X hX=>ex_look (r:=some r.b) rfl rfl rfl hX.1.map hk (by rw[hf];rfl)) hS0 ?_
  simp only[nn]
  refine gsem 6 (some 7) (.tuple #[pv (some r.b), .bool true]) rfl (by kernel_rfl) (by kernel_rfl) (by kernel_rfl) (fun _ _ _ h=>h) (by kernel_rfl) (by kernel_rfl) (fun _ _=>by kernel_rfl) hS0 ?_
  simp only[nn]
  refine gsem 7 (some 14) (pv (some r.b)) rfl (by kernel_rfl) (by kernel_rfl) (by kernel_rfl) (fun _ _ _ h=>h) (by kernel_rfl) (by kernel_rfl) (fun _ _=>by kernel_rfl) hS0 ?_
  simp only[nn]
  refine gsem 9 (some 5) (pv (some r.b)) rfl (by kernel_rfl) (by kernel_rfl) (by kernel_rfl) (fun _ _ _ h=>h) (by kernel_rfl) (by kernel_rfl) (fun _ _=>by kernel_rfl) hS0 ?_
  simp only[nn]
  refine gsem 8 (some 15) (.bool true) rfl (by kernel_rfl) (by kernel_rfl) (by kernel_rfl) (fun _ _ _ h=>h) (by kernel_rfl) (by kernel_rfl) (fun _ _=>by kernel_rfl) hS0 ?_
  simp only[nn]
  refine gsem 10 (some 6) (.bool true) rfl (by kernel_rfl) (by kernel_rfl) (by kernel_rfl) (fun _ _ _ h=>h) (by kernel_rfl) (by kernel_rfl) (fun _ _=>by kernel_rfl) hS0 ?_
  simp only[nn]
  refine wpAnyH_done (by kernel_rfl) ?_ _
  try simp only[nn]
  replace HT:=hide hS0.1
  replace LL:=hide hS0.2
  clear hS0
  unfold pv
  go_wp2
  refine wp_region_held_drew (P:=prog) (S:=fun X=>Holds X T.t T.cs/\Hq w X T.blocks [(w.heap.size,k.cs)]) (by kernel_rfl) ⟨(uh HT).tab.block rfl,(uh LL).drew⟩ (fun hS0=> ?_)
  refine gsem 0 (some 18) (.pointer (some ⟨T.t,0,none⟩)) rfl (by kernel_rfl) (by kernel_rfl) (by kernel_rfl) (fun _ _ _ h=>h) (by kernel_rfl) (by kernel_rfl) (fun _ _=>by kernel_rfl) hS0 ?_
  simp only[nn]
  refine gsem 1 (some 19) (.pointer (some ⟨T.t,0,none⟩)) rfl (by kernel_rfl) (by kernel_rfl) (by kernel_rfl) (fun _ _ _ h=>h) (by kernel_rfl) (by kernel_rfl) (fun _ _=>by kernel_rfl) hS0 ?_
  simp only[nn]
  refine gsem 2 (some 20) (.pointer (some ⟨T.t,0,none⟩)) rfl (by kernel_rfl) (by kernel_rfl) (by kernel_rfl) (fun _ _ _ h=>h) (by kernel_rfl) (by kernel_rfl) (fun _ _=>by kernel_rfl) hS0 ?_
  simp only[nn]
  refine gsem 3 (some 21) (.map (some T.m)) rfl (by kernel_rfl) (by kernel_rfl) (by kernel_rfl) (fun _ _ _ h=>h) (by kernel_rfl) (by kernel_rfl) (fun X hX=>ex_load1 167 isAgg167 rfl rfl (hX.1) rfl) hS0 ?_
  simp only[nn]
  refine gsem 4 (some 22) (k.agg) rfl (by kernel_rfl) (by kernel_rfl) (by kernel_rfl) (fun _ _ _ h=>h) (by kernel_rfl) (by kernel_rfl) (fun X hX=>ex_loadN (vs:=k.cs) 42 2 row33x siz33 rfl rfl (hX.2.get 0 rfl) rfl rfl) hS0 ?_
  simp only[nn]
  have hmt:T.t ∉ [T.m]:=by simpa using (uh HAP).tm
  have hkm:w.heap.size≠T.m:=by have:=(uh HL) T.m (by simp[TT.blocks]);omega
  have hmb: ∀b∈ [T.m],b∈T.blocks∨w.heap.size<=b:=fun b hb=> .inl (by obtain rfl:b=T.m:=(by simpa using hb);simp[TT.blocks])
  refine wpAnyH_ready (rs:= [5]) (by kernel_rfl) (by simp) (gdel 5 rfl (by kernel_rfl) (by kernel_rfl) rfl rfl rfl (uh HT).drew.map (uh hk2) (fun X hX=>⟨hS0.1.block (hX.block T.t (hS0.1.lt (by simp[TT.cs])) hmt),hS0.2.step hX hmb (fun q hq=>by obtain rfl:q=(w.heap.size,k.cs):=(by simpa using hq);simpa using hkm)⟩) ?_ AllReadyH.nil)
  intro X hM hX
  have hTd:=(uh HT).drew
  have hLX:=hS0.2.step hX hmb (fun q hq=>by obtain rfl:q=(w.heap.size,k.cs):=(by simpa using hq);simpa using hkm)
  have hm3:MapIs X T.m T.last (T.live.length - 1) (putF (fun q=>(T.find q).map (·.b)) k none):=by
   have e:=uh hf2
   have:=hM
   simp only[e,Option.map_some,Option.isSome_some,if_true] at this
   exact this
  have hap:=uh HAP
  have hbl: ∀b,b≠T.m->b<w.heap.size->X.heap[b]? =(World.drew _).heap[b]? :=fun b hb hlt=>hX.block b (by have:=hS0.2.fr.size;omega) (by simpa using hb)
  have HOWN:Hid (OwnP X T.rv (T.rows.map (·.b))):=hide (hTd.own.block (fun g hg=>hX.block g (World.ownsRow.lt hTd.own g hg).2 (fun hm=>(hap.tv g hg).2.1 (by simpa using hm))))
  have HROW:Hid (∀q∈T.rows,Holds X q.b q.cs):=hide (fun q hq=>(hTd.rows q hq).block (hX.block q.b ((hTd.rows q hq).lt (by simp[rcs_length])) (fun hm=>hap.mr (by obtain h1:q.b=T.m:=(by simpa using hm);exact h1▸List.mem_map.2 ⟨q,hq,rfl⟩))))
  have HTAB:Hid (Holds X T.t T.cs):=hide (hS0.1.block (hX.block T.t (hS0.1.lt (by simp[TT.cs])) hmt))
  have HM3:=hide hm3
  have hS1:Holds X T.t T.cs/\Hq w X T.blocks [(w.heap.size,k.cs)]:=⟨uh HTAB,hLX⟩
  replace LL:=hide hLX
  clear hS0 hM hX hTd hLX hm3 hbl hmt hkm hmb
  simp only[nn]
  refine wpAnyH_done (by kernel_rfl) ?_ _
  try simp only[nn]
  clear hS1
  go_wp2_with fail
  refine(leave37 r X ((uh HROW) r (live_mem (uh HRL).1))).mono ?_
  rintro _ w3 ⟨rfl,hg3,hf3⟩
  have hrm:r.b∈T.rows.map (·.b):=List.mem_map.2 ⟨r,live_mem (uh HRL).1,rfl⟩
  have hT2:(T.left r.b).Is w3:=by
   have e:=(uh HRL).2
   refine TT.Is.left (uh HT) (uh HRL).1 ((uh HTAB).block (hf3.block T.t ((uh HTAB).lt (by simp[TT.cs])) ?_)) ?_ ((uh HOWN).block (fun g hg=>hf3.block g (World.ownsRow.lt (uh HOWN) g hg).2 ?_)) (fun q hq hne=>((uh HROW) q hq).block (hf3.block q.b (((uh HROW) q hq).lt (by simp[rcs_length])) (by simpa using hne))) hg3
   ·intro hm
    exact hap.tr (by obtain h1:T.t=r.b:=(by simpa using hm);exact h1▸hrm)
   ·rw[e]
    exact(uh HM3).block (hf3.block T.m (uh HM3).lt (fun hm=>hap.mr (by obtain h1:T.m=r.b:=(by simpa using hm);exact h1▸hrm)))
   ·intro hm
    exact(hap.tv g hg).2.2 (by obtain h1:g=r.b:=(by simpa using hm);exact h1▸hrm)
  have HFR:Hid (Fr w w3 T.blocks):=hide ((uh LL).fr.trans hf3 (fun b hb=> .inl (by
   obtain rfl:b=r.b:=by simpa using hb
   unfold TT.blocks
   simp only[List.mem_cons,List.mem_append]
   exact .inr (.inr (.inr hrm)))))
  have HT2:=hide hT2
  clear hT2 hg3 hf3 hrm hap HOWN HROW HTAB HM3 LL
  go_wp2_with fail
  refine((uh H2) w3 (uh HT2)).mono ?_
  rintro _ w4 ⟨rfl,hb⟩
  replace HFR:=hide ((uh HFR).on hb)
  replace HT2:=hide ((uh HT2).on hb)
  clear hb
  go_wp2_with fail
  refine((uh H3) w4 (uh HT2)).mono ?_
  rintro _ x4 ⟨rfl,e4⟩
  rw[e4]
  clear e4 x4
  obtain⟨g1,hg1⟩: ∃g1,g1=(T.left r.b).rows.length - (T.left r.b).live.length:=⟨_,rfl⟩
  obtain⟨g2,hg2⟩: ∃g2,g2=(T.left r.b).live.length:=⟨_,rfl⟩
  rw[←hg1,←hg2]
  clear hg1 hg2
  by_cases hgt:g2<g1
  ·have hgz:(g2:Int)<g1:=by omega
   go_wp2_with fail
   refine((uh H4) w4 (uh HT2)).mono ?_
   rintro _ w5 ⟨rfl,m,rv,hT5,hf5,hb5⟩
   have HF5:=hide hf5
   have HT5:=hide hT5
   have HB5:=hide hb5
   clear hf5 hT5 hb5
   go_wp2
   go_ret
   refine⟨rfl,_,uh HT5,rfl,rfl,(uh HFR).trans (uh HF5) (fun b hb=> .inl (by obtain rfl:b=T.t:=(by simpa using hb);simp[TT.blocks])),fun b hb=> ?_, ?_⟩
   ·rcases (uh HB5) b hb with h1|h1
    ·rw[TT.left_blocks] at h1
     exact .inl h1
    ·exact .inr (Nat.le_trans (uh HFR).size h1)
   ·rw[TT.packed_live]
    exact uh HLV
  ·have hgz: ¬(g2:Int)<g1:=by omega
   go_wp2
   go_ret
   refine⟨rfl,_,uh HT2,rfl,rfl,uh HFR,fun b hb=> ?_,uh HLV⟩
   rw[TT.left_blocks] at hb
   exact .inl hb
