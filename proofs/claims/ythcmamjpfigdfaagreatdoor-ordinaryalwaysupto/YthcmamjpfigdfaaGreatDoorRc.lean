import Derived.Test.YthcmamjpfigdfaaGreatDoorRb
set_option linter.all false
namespace Go.Proofs.YthcmamjpfigdfaaGreatDoor
set_option maxRecDepth 100000
set_option maxHeartbeats 0
section
open Go Go.Proofs Go.Maps Go.RowKit Tryz
theorem run_mm (n:Nat) (w:World):(Instr.makeMap 190 (some (.int .i64 (n:Nat)))).run prog w= .ok (.map (some w.heap.size)) (w.alloc (.map #[] 0)):=by
 simp[Instr.makeMap,go_sem]
theorem siz69:(prog.info? 190).map (·.size)=some 1:=by kernel_rfl
theorem ex_mm {o:Oper} {a:Act} {w:World} {x:Operand} {n:Nat} (ho:o.op= .makeMap 190 (some x)) (hx:a.eval x= .int .i64 (n:Nat)):(execOp a.eval o).run prog w= .ok (.value (.map (some w.heap.size))) (w.alloc (.map #[] 0)):=by
 unfold execOp
 simp only[ho,hx,Option.map_some]
 simp[run_mm]
theorem rdw {ops:Array Oper} {rest:List Oper} {Q:Exit->Act->World->Prop} {w X:World} {a:Act} {o:Oper} {v:Value} (hw:Region.wanted o (yielded ops a.tmps)=true) (hy:(execOp a.eval o).run prog w= .ok (.value v) X) (h:wpList prog ops Q rest (a.put o.dst v) X):wpList prog ops Q (o::rest) a w:=by
 refine BigFrame.wpList_want hw fun K hK=> ?_
 have hP:=hK _ _ h
 unfold Oper.wp
 rw[hy]
 exact hP
def fnd (l:List RR) (k:KK):Option Nat:=(l.find? (fun r=>decide (r.k=k))).map (·.b)
theorem fnd_take {l:List RR} (hp:l.Pairwise (fun a b=>a.k≠b.k)) {j:Nat} (hj:j<l.length):fnd (l.take j) l[j].k=none/\Qv (fnd (l.take j)) l[j].k (some l[j].b)=fnd (l.take (j+1)):=by
 have hno: ∀r∈l.take j,r.k≠l[j].k:=by
  intro r hr
  obtain⟨i,hi,rfl⟩:=List.mem_take_iff_getElem.1 hr
  exact List.pairwise_iff_getElem.1 hp i j (by omega) hj (by omega)
 have h0:(l.take j).find? (fun r=>decide (r.k=l[j].k))=none:=by
  rw[List.find?_eq_none]
  intro r hr
  simpa using hno r hr
 refine⟨by unfold fnd;rw[h0];rfl, ?_⟩
 funext q
 unfold fnd
 rw[List.take_succ_eq_append_getElem hj,List.find?_append]
 by_cases e:q=l[j].k
 ·subst e
  rw[h0,Nn]
  simp
 ·rw[Mb e]
  have e2:([l[j]]:List RR).find? (fun r=>decide (r.k=q))=none:=by
   simp
   exact fun h=>e h.symm
  rw[e2]
  simp
structure CPk (T:TT) (w1 wr:World) (A:Option Addr) (n c M j:Nat):Prop where
 tab:Holds wr T.t [.map (some M), .slice A n c, .int .u64 T.last]
 map:MapIs wr M j j (fnd (T.live.take j))
 fr:Fr w1 wr [T.t]
theorem Zgq (T:TT) (w:World) (hT:T.Is w) (hl:T.last<100000):Calls prog 221 #[.pointer (some ⟨T.t,0,none⟩)] w fun e w'=>e= .returned (.tuple #[])/\ ∃m rv,(T.packed m rv).Is w'/\Fr w w' [T.t]/\(∀b∈(T.packed m rv).blocks,b∈T.blocks∨w.heap.size<=b):=by
 have C39:=Ab (Zdx T w hT hl)
 have HT:=Ab hT
 have hlen:=hT.len
 have hlv:=T.live_le
 obtain⟨n,hn⟩: ∃n,n=T.live.length:=⟨_,rfl⟩
 have hn1:n<=100000:=by omega
 have hnl:Hid (n<=T.last):=Ab (by omega)
 have Hn:=Ab hn
 clear hT hlen hlv hl hn
 go_enter func221,ntmps221
 go_wp2_with fail
 refine(Aa C39).mono ?_
 clear C39
 rintro _ w1 ⟨rfl,rv,hT1,hf1,hb1⟩
 obtain⟨A,c,hrv⟩:=Gl hT1.own
 replace hrv:rv= .slice A n c:=by
  rw[Aa Hn]
  simpa [TT.packed] using hrv
 subst hrv
 have HV:Hid (Holds w1 T.t [.map (some T.m), .slice A n c, .int .u64 T.last]):=Ab hT1.tab
 have HT1:=Ab hT1
 have HF1:=Ab hf1
 have HB1:=Ab hb1
 have HAP:=Ab (TT.apart hT1.nd)
 have htl:Hid (T.t<w1.heap.size):=Ab (hT1.lt T.t (by simp[TT.blocks,TT.packed]))
 clear hT1 hf1 hb1
 go_wp2_with (first|go_skip|((with_reducible show wpList ..);first|(refine rd rfl (Ad 191 isAgg191 rfl rfl (Aa HV) rfl) ?_)|((refine rdw (by rfl) (ex_mm rfl rfl) ?_);obtain⟨M,hM⟩: ∃M,M=w1.heap.size:=⟨_,rfl⟩;obtain⟨w2,hw2⟩: ∃w2,w2=w1.alloc (.map #[] 0):=⟨_,rfl⟩;have HM:=Ab hM;have hb2:Below w1.heap.size w1 w2:=(by rw[hw2];exact(Below.refl _ _).alloc (Nat.le_refl _) _);have HMP:Hid (MapIs w2 M 0 0 (fnd (T.live.take 0))):=Ab (by rw[hw2,hM];exact MapIs.made w1);rw[←hw2,←hM];replace HV:=Ab ((Aa HV).block (hb2.block T.t (Aa htl)));have HB2:=Ab hb2;clear hw2 hM hb2;simp only[nn])|((with_reducible apply stx (t:=190) (b:=T.t) (p:=0) (cs:= [.map (some T.m), .slice A n c, .int .u64 T.last]) (vs:= [.map (some M)]) (v:= .map (some M)));(case hw|ho|hx|hy=>rfl);(case hv=>exact rfl);(case h1=>exact(by simp[Value.oneCell']));(case hi=>exact siz69);(case hH=>exact Aa HV);(case hp=>exact(by simp));(obtain⟨w3,hw3⟩: ∃w3,w3=w2.setCells T.t 0 [.map (some M)]:=⟨_,rfl⟩);(have HC:Hid (CPk T w1 w3 A n c M 0):=Ab ⟨(by rw[hw3];exact(Aa HV).put 0 [.map (some M)] (by simp)),(by rw[hw3];exact(Aa HMP).block (Gg _ _ _ _ _ (by have h1:=Aa HM;have h2:=Aa htl;omega))),(by rw[hw3];exact(Fr.of_below (Aa HB2) [T.t]).trans (Fr.setCells _ _ _ _) (fun b hb=> .inl hb))⟩);rw[←hw3];replace HV:=Ab (Aa HC).tab;clear hw3;simp only[nn])))
 clear HV HMP HB2
 go_loopg [3,20] n (fun gm s3 s20 wr=> ∃j:Nat,s20= .int .i64 j/\j<=n/\n - j<=gm/\Hid (CPk T w1 wr A n c M j))
 case atStart=>exact⟨0,rfl,by omega,by omega,HC⟩
 case round=>
  obtain⟨j,rfl,hj,hg,HR⟩:=hrel
  by_cases hjl:j<n
  ·have hjz:(j:Int)<n:=by omega
   have hjr:j<T.live.length:=by have:=Aa Hn;omega
   have hown:w1.ownsRow 0 203 1 (.slice A (T.live.map (·.b)).length c) (T.live.map (·.b)).length (Pk (T.live.map (·.b))):=by
    have h1:=(Aa HT1).own
    have e:=Aa Hn
    unfold OwnP TT.packed at h1
    simp only at h1
    rw[List.length_map,←e] at h1 ⊢
    exact h1
   obtain⟨g,rfl, -,hgl⟩:=Zc3 hown (by simp;omega)
   have hgt:g≠T.t:=((Aa HAP).tv g rfl).1
   have HG:Hid (Holds wr g (Pk (T.live.map (·.b)))):=Ab ((Zbq hown).block ((Aa HR).fr.block g hgl (by simpa using hgt)))
   obtain⟨r,hr⟩: ∃r,r=T.live[j]:=⟨_,rfl⟩
   have hrm:r∈T.live:=hr▸List.getElem_mem hjr
   have HP:Hid ((Pk (T.live.map (·.b)))[0+j]? =some (.pointer (some ⟨r.b,0,none⟩))):=Ab (by rw[hr];exact Zc1 T.live j hjr)
   have hrt:r.b≠T.t:=fun e=>(Aa HAP).tr (e▸List.mem_map.2 ⟨r,hrm,rfl⟩)
   have hrl:=((Aa HT1).rows r hrm).lt (by simp[Ef])
   have HRr:Hid (Holds wr r.b r.cs):=Ab (((Aa HT1).rows r hrm).block ((Aa HR).fr.block r.b hrl (by simpa using hrt)))
   have HOK:=Ab (good_ok ((Aa HT).good r hrm))
   have HFN:=Ab (fnd_take (Aa HT).keys hjr)
   rw[←hr] at HFN
   have HMr:Hid (T.t≠M/\r.b≠M):=Ab ⟨by have h1:=Aa HM;have h2:=Aa htl;omega,by have h1:=Aa HM;omega⟩
   have hjM:Hid (j<maxLen):=Ab (by unfold maxLen;omega)
   clear hr hrm hrt hrl hown hgt hgl
   go_wp2_with (first|go_skip|((with_reducible show wpList ..);first|(refine rd rfl (Rs (off:=0) j rfl rfl rfl hjl) ?_)|(refine rd rfl (Ad 203 isAgg203 rfl rfl (Aa HG) (Aa HP)) ?_)))
   refine wp_region_held_drew (P:=prog) (S:=fun X=>Holds X T.t [.map (some M), .slice (some ⟨g,0,none⟩) n c, .int .u64 T.last]/\Holds X r.b r.cs) (by kernel_rfl) ⟨(Aa HR).tab.block rfl,(Aa HRr).block rfl⟩ (fun hS0=> ?_)
   refine y0 0 (some 24) (.pointer (some ⟨T.t,0,none⟩)) rfl hS0 ?_
   refine y0 1 (some 25) (.pointer (some ⟨T.t,0,none⟩)) rfl hS0 ?_
   refine y0 2 (some 26) (.pointer (some ⟨T.t,0,none⟩)) rfl hS0 ?_
   refine y1 3 (some 27) (.map (some M)) rfl (fun X hX=>Ad 190 isAgg190 rfl rfl (hX.1) rfl) hS0 ?_
   refine y0 4 (some 28) (.pointer (some ⟨r.b,0,none⟩)) rfl hS0 ?_
   refine y0 5 (some 29) (.pointer (some ⟨r.b,0,none⟩)) rfl hS0 ?_
   refine y0 6 (some 30) (.pointer (some ⟨r.b,0,none⟩)) rfl hS0 ?_
   refine y0 7 (some 31) (.pointer (some ⟨r.b,0,none⟩)) rfl hS0 ?_
   refine y1 8 (some 32) (r.k.agg) rfl (fun X hX=>Af (vs:=r.k.cs) 37 2 Ja Ka rfl rfl (hX.2) rfl rfl) hS0 ?_
   refine y0 9 (some 33) (.pointer (some ⟨r.b,0,none⟩)) rfl hS0 ?_
   refine wpAnyH_ready (rs:= [10]) (by kernel_rfl) (by simp) (gupd (r:=r.b) 10 rfl (by kernel_rfl) (by kernel_rfl) rfl rfl rfl rfl ((Aa HR).map.block rfl) (Aa HOK) (Aa hjM) (fun X hX=>⟨hS0.1.block (hX.block T.t (hS0.1.lt (by simp)) (by simpa using (Aa HMr).1)),hS0.2.block (hX.block r.b (hS0.2.lt (by simp[Ef])) (by simpa using (Aa HMr).2))⟩) ?_ AllReadyH.nil)
   intro X hM6 hX6
   have HR6:Hid (CPk T w1 X (some ⟨g,0,none⟩) n c M (j+1)):=Ab ⟨hS0.1.block (hX6.block T.t (hS0.1.lt (by simp)) (by simpa using (Aa HMr).1)),(by have h1:=hM6;rw[(Aa HFN).1,(Aa HFN).2] at h1;exact h1),((Aa HR).fr.drew.trans hX6 (fun b hb=>Or.inr (by have h1:=Aa HM;obtain rfl:b=M:=(by simpa using hb);omega)))⟩
   replace hS0:=And.intro (hS0.1.block (hX6.block T.t (hS0.1.lt (by simp)) (by simpa using (Aa HMr).1))) (hS0.2.block (hX6.block r.b (hS0.2.lt (by simp[Ef])) (by simpa using (Aa HMr).2)))
   clear hM6 hX6
   simp only[nn]
   refine dn ?_
   try simp only[nn]
   clear hS0
   go_wp2
   go_roundg (n - (j+1))
   case measure=>omega
   case rel=>exact⟨j+1,by go_num,by omega,Nat.le_refl _,HR6⟩
  ·have hjz: ¬(j:Int)<n:=by omega
   have hjn:j=n:=by omega
   subst hjn
   go_wp2
   go_end0
   have hC:=Aa HR
   have hTT:=Aa HT1
   have hap:=Aa HAP
   have e:=Aa Hn
   have htk:T.live.take j=T.live:=by rw[e,List.take_length]
   have hmp:=hC.map
   rw[htk] at hmp
   have hM:=Aa HM
   have hs1:=(Aa HF1).size
   have hlt:=(Aa HT).lt
   have hrv: ∀b,(Value.slice A j c).ownBlock=some b->(T.rv.ownBlock=some b∨b ∉ T.blocks)/\b≠M:=fun b hb=>by
    refine⟨((Aa HB1) b hb).imp id (fun h1 hm=>by have:=hlt b hm;omega), ?_⟩
    have:=World.ownsRow.lt hTT.own b hb
    omega
   refine⟨rfl,M, .slice A j c,TT.Is.pack (Aa HT) hC.tab ?_ ?_ (fun r hr=> ?_) (.inr (fun hm=>by have:=hlt M hm;omega)) hrv, ?_, ?_⟩
   ·have h1:=hmp.mono (Aa hnl)
    rw[←e]
    exact h1
   ·exact hTT.own.block (fun b hb=>hC.fr.block b (World.ownsRow.lt hTT.own b hb).2 (fun hm=>(hap.tv b hb).1 (by show b=T.t;simpa using hm)))
   ·have h2:=hTT.rows r hr
    exact h2.block (hC.fr.block r.b (h2.lt (by simp[Ef])) (by simpa using fun e:r.b=T.t=>hap.tr (e▸List.mem_map.2 ⟨r,hr,rfl⟩)))
   ·exact(Aa HF1).trans hC.fr (fun b hb=> .inl hb)
   ·intro b hb
    simp only[TT.blocks,TT.packed,List.mem_cons,List.mem_append] at hb ⊢
    rcases hb with h1|h1|h1|h1
    ·exact .inl (.inl h1)
    ·exact .inr (by omega)
    ·rcases (Aa HB1) b (by simpa using h1) with h2|h2
     ·exact .inl (.inr (.inr (.inl (by rw[h2];simp))))
     ·exact .inr h2
    ·exact .inl (.inr (.inr (.inr (Np T b h1))))
def Ve (b:Nat) (q:RR):RR:=if q.b=b then ZaG q else q
theorem Vd (b:Nat) (q:RR):(Ve b q).b=q.b/\(Ve b q).n=q.n:=by
 unfold Ve ZaG
 split<;>exact⟨rfl,rfl⟩
def TT.left (T:TT) (b:Nat):TT:={T with rows:=T.rows.map (Ve b)}
theorem TT.left_live (T:TT) (b:Nat):(T.left b).live=T.live.filter (fun q=>decide (q.b≠b)):=by
 unfold TT.left TT.live
 simp only
 induction T.rows with
 |nil=>rfl
 |cons q l ih=>
  simp only[List.map_cons,List.filter_cons]
  by_cases h:q.b=b
  ·rw[show Ve b q=ZaG q from if_pos h]
   cases hg:q.gone
   ·rw[if_neg (by simp[ZaG]),if_pos (by simp),List.filter_cons,if_neg (by simp[h])]
    exact ih
   ·rw[if_neg (by simp[ZaG]),if_neg (by simp)]
    exact ih
  ·rw[show Ve b q=q from if_neg h]
   cases hg:q.gone
   ·rw[if_pos (by simp),if_pos (by simp),List.filter_cons,if_pos (by simp[h]),ih]
   ·rw[if_neg (by simp),if_neg (by simp)]
    exact ih
theorem ZaL {α:Type} {p q:α->Bool}: ∀{l:List α},(∀x∈l,p x=q x)->l.find? p=l.find? q
 | [],_=>rfl
 |x::l,h=>by
  rw[List.find?_cons,List.find?_cons,h x (by simp),ZaL (fun y hy=>h y (by simp[hy]))]
theorem Zbm {T:TT} (h:TApart T):T.rows.Pairwise (fun a b=>a.b≠b.b):=by
 have:=h.rr
 unfold List.Nodup at this
 rwa [List.pairwise_map] at this
theorem Pq {T:TT} {r:RR} (h:r∈T.live):r∈T.rows:=(List.mem_filter.1 h).1
theorem ZbH {T:TT} {w:World} (hT:T.Is w) {r q:RR} (hr:r∈T.live) (hq:q∈T.live):q.b=r.b↔q.k=r.k:=by
 constructor
 ·intro e
  rw[Zas (f:=RR.b) (Zbm (TT.apart hT.nd)) (Pq hq) (Pq hr) e]
 ·intro e
  rw[Zas (f:=RR.k) hT.keys hq hr e]
theorem TT.left_live' {T:TT} {w:World} (hT:T.Is w) {r:RR} (hr:r∈T.live):(T.left r.b).live=T.live.filter (fun q=>decide (q.k≠r.k)):=by
 rw[TT.left_live]
 apply List.filter_congr
 intro q hq
 have:=ZbH hT hr hq
 simp[this]
theorem TT.left_find {T:TT} {w:World} (hT:T.Is w) {r:RR} (hr:r∈T.live):(fun q=>((T.left r.b).find q).map (·.b))=Qv (fun q=>(T.find q).map (·.b)) r.k none:=by
 funext q
 unfold TT.find
 rw[TT.left_live' hT hr,List.find?_filter]
 by_cases e:q=r.k
 ·subst e
  rw[Nn]
  have:T.live.find? (fun a=>decide (decide (a.k≠r.k)=true/\decide (a.k=r.k)=true))=none:=by
   rw[List.find?_eq_none]
   intro x _
   simp
  rw[this]
  rfl
 ·rw[Mb e]
  congr 1
  apply ZaL
  intro x _
  by_cases e2:x.k=q
  ·have:x.k≠r.k:=fun e3=>e (e2▸e3)
   simp[e2]
   exact fun e3=>e e3
  ·simp[e2]
theorem TT.left_len {T:TT} {w:World} (hT:T.Is w) {r:RR} (hr:r∈T.live):(T.left r.b).live.length=T.live.length - 1:=by
 rw[TT.left_live' hT hr]
 obtain⟨a,b,e⟩:=List.append_of_mem hr
 have hp:=hT.keys
 rw[e] at hp ⊢
 have h1:=List.pairwise_append.1 hp
 have h2:=List.pairwise_cons.1 h1.2.1
 have ha:a.filter (fun q=>decide (q.k≠r.k))=a:=by
  rw[List.filter_eq_self]
  intro x hx
  simpa using h1.2.2 x hx r (by simp)
 have hb:b.filter (fun q=>decide (q.k≠r.k))=b:=by
  rw[List.filter_eq_self]
  intro x hx
  simpa using (h2.1 x hx).symm
 rw[List.filter_append,List.filter_cons,ha,hb]
 simp
theorem TT.Is.left {T:TT} {w X:World} {r:RR} (hT:T.Is w) (hr:r∈T.live) (htab:Holds X T.t T.cs) (hmap:MapIs X T.m T.last (T.live.length - 1) (Qv (fun k=>(T.find k).map (·.b)) r.k none)) (hown:OwnP X T.rv (T.rows.map (·.b))) (hrest: ∀q∈T.rows,q.b≠r.b->Holds X q.b q.cs) (hg:Holds X r.b (ZaG r).cs):(T.left r.b).Is X:=by
 have hbs:(T.left r.b).rows.map (·.b)=T.rows.map (·.b):=by
  unfold TT.left
  simp only[List.map_map]
  apply List.map_congr_left
  intro q _
  exact(Vd r.b q).1
 have hsub: ∀q∈(T.left r.b).live,q∈T.live:=fun q hq=>by
  rw[TT.left_live] at hq
  exact(List.mem_filter.1 hq).1
 refine⟨htab, ?_, ?_, ?_, ?_, ?_, ?_, ?_,fun q hq=>hT.good q (hsub q hq)⟩
 ·rw[TT.left_find hT hr,TT.left_len hT hr]
  exact hmap
 ·rw[hbs]
  exact hown
 ·intro q hq
  obtain⟨p,hp,rfl⟩:=List.mem_map.1 hq
  by_cases e:p.b=r.b
  ·have:=Zas (f:=RR.b) (Zbm (TT.apart hT.nd)) hp (Pq hr) e
   subst this
   unfold Ve
   rw[if_pos rfl]
   exact hg
  ·unfold Ve
   rw[if_neg e]
   exact hrest p hp e
 ·have h:=hT.nd
  unfold TT.blocks at h ⊢
  rw[hbs]
  exact h
 ·show (T.rows.map (Ve r.b)).Pairwise _
  rw[List.pairwise_map]
  refine hT.rise.imp ?_
  intro a b h
  rw[(Vd r.b a).2,(Vd r.b b).2]
  exact h
 ·intro q hq
  obtain⟨p,hp,rfl⟩:=List.mem_map.1 hq
  rw[(Vd r.b p).2]
  exact hT.num p hp
 ·rw[TT.left_live]
  exact hT.keys.sublist List.filter_sublist
theorem TT.left_blocks (T:TT) (b:Nat):(T.left b).blocks=T.blocks:=by
 unfold TT.blocks TT.left
 simp only[List.map_map]
 congr 3
 apply List.map_congr_left
 intro q _
 exact(Vd b q).1
theorem gdel {md:Region.Mode} {ops:Array Oper} {Q:Exit->Act->World->Prop} {S:World->Prop} {w:World} {fuel:Nat} {listed:Array Bool} {a:Act} {o:Oper} (i:Nat) {m x:Operand} {b n sz:Nat} {F:KK->Option Nat} {k:KK} {rs:List Nat} (hi:ops[i]? =some o) (hd:o.dst=none) (hw:Region.wanted o (yielded ops a.tmps)=true)
  (ho:o.op= .call {callee:= .builtin .delete,args:= #[m,x],argTypes:= #[190,37]}) (hm:a.eval m= .map (some b)) (hx:a.eval x=k.agg) (h:MapIs w b n sz F) (hk:OkK k) (hon: ∀X,Fr w X [b]->S X)
  (hh: ∀X,MapIs X b n (if (F k).isSome then sz - 1 else sz) (Qv F k none)->Fr w X [b]->wpAnyH prog md ops Q S fuel (listed.setIfInBounds i true) (a.put none (.tuple #[])) X) (hs:AllReadyH prog md ops Q S fuel listed a w rs):AllReadyH prog md ops Q S fuel listed a w (i::rs):=by
 obtain⟨X,h1,h2,h3⟩:=h.drop hk o.type
 refine Zej i none hi hd hw (V:= .tuple #[]) (X:=X) ?_ (hon X (Fr.grown h3.grown)) (hh X h2 (Fr.grown h3.grown)) hs
 simp[execOp,ho,resolve,invoke,builtin,hm,hx,h1,Result.andThen]
theorem ZaW (T:TT) (k:KK) (w:World) (hT:T.Is w) (hk:OkK k) (hl:T.last<100000):Calls prog 211 #[.pointer (some ⟨T.t,0,none⟩),k.agg] w fun e w'=>e= .returned (.bool (T.find k).isSome)/\ ∃T':TT,T'.Is w'/\T'.t=T.t/\T'.last=T.last/\Fr w w' T.blocks/\(∀b∈T'.blocks,b∈T.blocks∨w.heap.size<=b)/\T'.live=T.live.filter (fun q=>decide (q.k≠k)):=by
 cases hf:T.find k with
 |none=>
  have hlv:T.live.filter (fun q=>decide (q.k≠k))=T.live:=by
   rw[List.filter_eq_self]
   intro q hq
   simpa using TT.find_none hf q hq
  rw[hlv]
  clear hlv
  have HT:=Ab (hT.on ((Below.refl _ _).alloc (Nat.le_refl _) (Obj.cells k.cs.toArray 37)))
  have LL:=Ab ((Hq.nil w T.blocks).new k.cs 37 (Nat.succ_pos _))
  have HL:=Ab hT.lt
  clear hT
  rw[show k.agg= .agg k.cs.toArray from rfl]
  go_enter func211,ntmps211
  go_wp2
  refine wp_region_held_drew (P:=prog) (S:=fun X=>T.Is X/\Hq w X T.blocks [(w.heap.size,k.cs)]) (by kernel_rfl) ⟨(Aa HT).drew,(Aa LL).drew⟩ (fun hS0=> ?_)
  refine y0 0 (some 8) (.pointer (some ⟨T.t,0,none⟩)) rfl hS0 ?_
  refine y0 1 (some 9) (.pointer (some ⟨T.t,0,none⟩)) rfl hS0 ?_
  refine y0 2 (some 10) (.pointer (some ⟨T.t,0,none⟩)) rfl hS0 ?_
  refine y1 3 (some 11) (.map (some T.m)) rfl (fun X hX=>Ad 190 isAgg190 rfl rfl (hX.1.tab) rfl) hS0 ?_
  refine y1 4 (some 12) (k.agg) rfl (fun X hX=>Af (vs:=k.cs) 37 2 Ja Ka rfl rfl (hX.2.get 0 rfl) rfl rfl) hS0 ?_
  refine y1 5 (some 13) (.tuple #[pv (none), .bool false]) rfl (fun X hX=>Om (r:=none) rfl rfl rfl hX.1.map hk (by rw[hf];rfl)) hS0 ?_
  refine y0 6 (some 7) (.tuple #[pv (none), .bool false]) rfl hS0 ?_
  refine y0 7 (some 14) (pv (none)) rfl hS0 ?_
  refine y0 9 (some 5) (pv (none)) rfl hS0 ?_
  refine y0 8 (some 15) (.bool false) rfl hS0 ?_
  refine y0 10 (some 6) (.bool false) rfl hS0 ?_
  refine dn ?_
  try simp only[nn]
  replace HT:=Ab hS0.1
  replace LL:=Ab hS0.2
  clear hS0
  go_wp2
  go_ret
  exact⟨rfl,T,Aa HT,rfl,rfl,(Aa LL).fr,fun b hb=> .inl hb,rfl⟩
 |some r=>
  have hrl:r∈T.live:=List.mem_of_find?_eq_some hf
  obtain⟨-,hgn,hrk⟩:=TT.find_mem hf
  have HRL:=Ab (And.intro hrl hrk)
  have H2:Hid (∀X,(T.left r.b).Is X->Calls prog 220 #[.pointer (some ⟨T.t,0,none⟩)] X fun e w'=>e= .returned (.int .i64 (((T.left r.b).rows.length - (T.left r.b).live.length:Nat):Int))/\Below X.heap.size X w'):=Ab (fun X hX=>gaps38 (T.left r.b) X hX (by have:=hX.len;have e:(T.left r.b).last=T.last:=rfl;omega))
  have H3:Hid (∀X,(T.left r.b).Is X->Calls prog 130 #[.pointer (some ⟨T.t,0,none⟩)] X fun e w'=>e= .returned (.int .i64 (T.left r.b).live.length)/\w'=X):=Ab (fun X hX=>len30 (T.left r.b) X hX)
  have H4:Hid (∀X,(T.left r.b).Is X->Calls prog 221 #[.pointer (some ⟨T.t,0,none⟩)] X fun e w'=>e= .returned (.tuple #[])/\ ∃m rv,((T.left r.b).packed m rv).Is w'/\Fr X w' [T.t]/\(∀b∈((T.left r.b).packed m rv).blocks,b∈(T.left r.b).blocks∨X.heap.size<=b)):=Ab (fun X hX=>Zgq (T.left r.b) X hX hl)
  have HLV:Hid ((T.left r.b).live=T.live.filter (fun q=>decide (q.k≠k))):=Ab (by rw[TT.left_live' hT hrl,hrk])
  have HAP:=Ab (TT.apart hT.nd)
  have hk2:=Ab hk
  have hf2:=Ab hf
  clear hrl hrk hgn hl
  have HT:=Ab (hT.on ((Below.refl _ _).alloc (Nat.le_refl _) (Obj.cells k.cs.toArray 37)))
  have LL:=Ab ((Hq.nil w T.blocks).new k.cs 37 (Nat.succ_pos _))
  have HL:=Ab hT.lt
  clear hT
  rw[show k.agg= .agg k.cs.toArray from rfl]
  go_enter func211,ntmps211
  go_wp2
  refine wp_region_held_drew (P:=prog) (S:=fun X=>T.Is X/\Hq w X T.blocks [(w.heap.size,k.cs)]) (by kernel_rfl) ⟨(Aa HT).drew,(Aa LL).drew⟩ (fun hS0=> ?_)
  refine y0 0 (some 8) (.pointer (some ⟨T.t,0,none⟩)) rfl hS0 ?_
  refine y0 1 (some 9) (.pointer (some ⟨T.t,0,none⟩)) rfl hS0 ?_
  refine y0 2 (some 10) (.pointer (some ⟨T.t,0,none⟩)) rfl hS0 ?_
  refine y1 3 (some 11) (.map (some T.m)) rfl (fun X hX=>Ad 190 isAgg190 rfl rfl (hX.1.tab) rfl) hS0 ?_
  refine y1 4 (some 12) (k.agg) rfl (fun X hX=>Af (vs:=k.cs) 37 2 Ja Ka rfl rfl (hX.2.get 0 rfl) rfl rfl) hS0 ?_
  refine y1 5 (some 13) (.tuple #[pv (some r.b), .bool true]) rfl (fun X hX=>Om (r:=some r.b) rfl rfl rfl hX.1.map hk (by rw[hf];rfl)) hS0 ?_
  refine y0 6 (some 7) (.tuple #[pv (some r.b), .bool true]) rfl hS0 ?_
  refine y0 7 (some 14) (pv (some r.b)) rfl hS0 ?_
  refine y0 9 (some 5) (pv (some r.b)) rfl hS0 ?_
  refine y0 8 (some 15) (.bool true) rfl hS0 ?_
  refine y0 10 (some 6) (.bool true) rfl hS0 ?_
  refine dn ?_
  try simp only[nn]
  replace HT:=Ab hS0.1
  replace LL:=Ab hS0.2
  clear hS0
  unfold pv
  go_wp2
  refine wp_region_held_drew (P:=prog) (S:=fun X=>Holds X T.t T.cs/\Hq w X T.blocks [(w.heap.size,k.cs)]) (by kernel_rfl) ⟨(Aa HT).tab.block rfl,(Aa LL).drew⟩ (fun hS0=> ?_)
  refine y0 0 (some 18) (.pointer (some ⟨T.t,0,none⟩)) rfl hS0 ?_
  refine y0 1 (some 19) (.pointer (some ⟨T.t,0,none⟩)) rfl hS0 ?_
  refine y0 2 (some 20) (.pointer (some ⟨T.t,0,none⟩)) rfl hS0 ?_
  refine y1 3 (some 21) (.map (some T.m)) rfl (fun X hX=>Ad 190 isAgg190 rfl rfl (hX.1) rfl) hS0 ?_
  refine y1 4 (some 22) (k.agg) rfl (fun X hX=>Af (vs:=k.cs) 37 2 Ja Ka rfl rfl (hX.2.get 0 rfl) rfl rfl) hS0 ?_
  have hmt:T.t ∉ [T.m]:=by simpa using (Aa HAP).tm
  have hkm:w.heap.size≠T.m:=by have:=(Aa HL) T.m (by simp[TT.blocks]);omega
  have hmb: ∀b∈ [T.m],b∈T.blocks∨w.heap.size<=b:=fun b hb=> .inl (by obtain rfl:b=T.m:=(by simpa using hb);simp[TT.blocks])
  refine wpAnyH_ready (rs:= [5]) (by kernel_rfl) (by simp) (gdel 5 rfl (by kernel_rfl) (by kernel_rfl) rfl rfl rfl (Aa HT).drew.map (Aa hk2) (fun X hX=>⟨hS0.1.block (hX.block T.t (hS0.1.lt (by simp[TT.cs])) hmt),hS0.2.step hX hmb (fun q hq=>by obtain rfl:q=(w.heap.size,k.cs):=(by simpa using hq);simpa using hkm)⟩) ?_ AllReadyH.nil)
  intro X hM hX
  have hTd:=(Aa HT).drew
  have hLX:=hS0.2.step hX hmb (fun q hq=>by obtain rfl:q=(w.heap.size,k.cs):=(by simpa using hq);simpa using hkm)
  have hm3:MapIs X T.m T.last (T.live.length - 1) (Qv (fun q=>(T.find q).map (·.b)) k none):=by
   have e:=Aa hf2
   have:=hM
   simp only[e,Option.map_some,Option.isSome_some,if_true] at this
   exact this
  have hap:=Aa HAP
  have hbl: ∀b,b≠T.m->b<w.heap.size->X.heap[b]? =(World.drew _).heap[b]? :=fun b hb hlt=>hX.block b (by have:=hS0.2.fr.size;omega) (by simpa using hb)
  have HOWN:Hid (OwnP X T.rv (T.rows.map (·.b))):=Ab (hTd.own.block (fun g hg=>hX.block g (World.ownsRow.lt hTd.own g hg).2 (fun hm=>(hap.tv g hg).2.1 (by simpa using hm))))
  have HROW:Hid (∀q∈T.rows,Holds X q.b q.cs):=Ab (fun q hq=>(hTd.rows q hq).block (hX.block q.b ((hTd.rows q hq).lt (by simp[Ef])) (fun hm=>hap.mr (by obtain h1:q.b=T.m:=(by simpa using hm);exact h1▸List.mem_map.2 ⟨q,hq,rfl⟩))))
  have HTAB:Hid (Holds X T.t T.cs):=Ab (hS0.1.block (hX.block T.t (hS0.1.lt (by simp[TT.cs])) hmt))
  have HM3:=Ab hm3
  have hS1:Holds X T.t T.cs/\Hq w X T.blocks [(w.heap.size,k.cs)]:=⟨Aa HTAB,hLX⟩
  replace LL:=Ab hLX
  clear hS0 hM hX hTd hLX hm3 hbl hmt hkm hmb
  simp only[nn]
  refine dn ?_
  try simp only[nn]
  clear hS1
  go_wp2_with fail
  refine(leave37 r X ((Aa HROW) r (Pq (Aa HRL).1))).mono ?_
  rintro _ w3 ⟨rfl,hg3,hf3⟩
  have hrm:r.b∈T.rows.map (·.b):=List.mem_map.2 ⟨r,Pq (Aa HRL).1,rfl⟩
  have hT2:(T.left r.b).Is w3:=by
   have e:=(Aa HRL).2
   refine TT.Is.left (Aa HT) (Aa HRL).1 ((Aa HTAB).block (hf3.block T.t ((Aa HTAB).lt (by simp[TT.cs])) ?_)) ?_ ((Aa HOWN).block (fun g hg=>hf3.block g (World.ownsRow.lt (Aa HOWN) g hg).2 ?_)) (fun q hq hne=>((Aa HROW) q hq).block (hf3.block q.b (((Aa HROW) q hq).lt (by simp[Ef])) (by simpa using hne))) hg3
   ·intro hm
    exact hap.tr (by obtain h1:T.t=r.b:=(by simpa using hm);exact h1▸hrm)
   ·rw[e]
    exact(Aa HM3).block (hf3.block T.m (Aa HM3).lt (fun hm=>hap.mr (by obtain h1:T.m=r.b:=(by simpa using hm);exact h1▸hrm)))
   ·intro hm
    exact(hap.tv g hg).2.2 (by obtain h1:g=r.b:=(by simpa using hm);exact h1▸hrm)
  have HFR:Hid (Fr w w3 T.blocks):=Ab ((Aa LL).fr.trans hf3 (fun b hb=> .inl (by
   obtain rfl:b=r.b:=by simpa using hb
   unfold TT.blocks
   simp only[List.mem_cons,List.mem_append]
   exact .inr (.inr (.inr hrm)))))
  have HT2:=Ab hT2
  clear hT2 hg3 hf3 hrm hap HOWN HROW HTAB HM3 LL
  go_wp2_with fail
  refine((Aa H2) w3 (Aa HT2)).mono ?_
  rintro _ w4 ⟨rfl,hb⟩
  replace HFR:=Ab ((Aa HFR).on hb)
  replace HT2:=Ab ((Aa HT2).on hb)
  clear hb
  go_wp2_with fail
  refine((Aa H3) w4 (Aa HT2)).mono ?_
  rintro _ x4 ⟨rfl,e4⟩
  rw[e4]
  clear e4 x4
  obtain⟨g1,hg1⟩: ∃g1,g1=(T.left r.b).rows.length - (T.left r.b).live.length:=⟨_,rfl⟩
  obtain⟨g2,hg2⟩: ∃g2,g2=(T.left r.b).live.length:=⟨_,rfl⟩
  rw[←hg1,←hg2]
  clear hg1 hg2
  by_cases hgt:g2<g1
  ·have hgz:(g2:Int)<g1:=by omega
   go_wp2_with fail
   refine((Aa H4) w4 (Aa HT2)).mono ?_
   rintro _ w5 ⟨rfl,m,rv,hT5,hf5,hb5⟩
   have HF5:=Ab hf5
   have HT5:=Ab hT5
   have HB5:=Ab hb5
   clear hf5 hT5 hb5
   go_wp2
   go_ret
   refine⟨rfl,_,Aa HT5,rfl,rfl,(Aa HFR).trans (Aa HF5) (fun b hb=> .inl (by obtain rfl:b=T.t:=(by simpa using hb);simp[TT.blocks])),fun b hb=> ?_, ?_⟩
   ·rcases (Aa HB5) b hb with h1|h1
    ·rw[TT.left_blocks] at h1
     exact .inl h1
    ·exact .inr (Nat.le_trans (Aa HFR).size h1)
   ·rw[TT.packed_live]
    exact Aa HLV
  ·have hgz: ¬(g2:Int)<g1:=by omega
   go_wp2
   go_ret
   refine⟨rfl,_,Aa HT2,rfl,rfl,Aa HFR,fun b hb=> ?_,Aa HLV⟩
   rw[TT.left_blocks] at hb
   exact .inl hb
