import Derived.Test.YthjnflilfjcgiaaGreatFmtRc
set_option linter.all false
namespace Go.Proofs.YthjnflilfjcgiaaGreatFmt
set_option maxRecDepth 100000
set_option maxHeartbeats 0
section
open Go Go.Proofs Go.Maps Go.RowKit Tryz
theorem own_holds {w:World} {base e s n g c:Nat} {xs:List Value} (h:w.ownsRow base e s (.slice (some ⟨g,0,none⟩) n c) n xs):Holds w g xs:=by
 refine⟨fun j=> ?_,fun j u hu=> ?_⟩
 ·rcases h.2 with ⟨h1, -⟩|⟨g',cap,cur,h1,h2,h3, -⟩
  ·cases h1
  ·cases h1
   simp[World.frozen?,h3]
 ·have:=h.cells (g:=g) rfl j u hu
  rwa [Addr.add_mid] at this
theorem TT.find_none {T:TT} {k:KK} (h:T.find k=none): ∀r∈T.live,r.k≠k:=by
 intro r hr
 have:=List.find?_eq_none.1 h r hr
 simpa using this
theorem pair_inj {α β:Type} {f:α->β} {l:List α} (h:l.Pairwise (fun a b=>f a≠f b)) {a b:α} (ha:a∈l) (hb:b∈l) (he:f a=f b):a=b:=by
 induction l with
 |nil=>cases ha
 |cons x l ih=>
  obtain⟨h1,h2⟩:=List.pairwise_cons.1 h
  rcases List.mem_cons.1 ha with e1|ha'
  ·rcases List.mem_cons.1 hb with e2|hb'
   ·rw[e1,e2]
   ·rw[e1] at he
    exact absurd he (h1 b hb')
  ·rcases List.mem_cons.1 hb with e2|hb'
   ·rw[e2] at he
    exact absurd he.symm (h1 a ha')
   ·exact ih h2 ha' hb'
theorem own_some {w:World} {base e s n:Nat} {A:Option Addr} {c:Nat} {xs:List Value} (h:w.ownsRow base e s (.slice A n c) n xs) (hn:0<n): ∃g,A=some ⟨g,0,none⟩/\base<=g/\g<w.heap.size:=by
 rcases h.2 with ⟨h1,h2⟩|⟨g,cap,cur,h1,h2⟩
 ·omega
 ·have hA:A=some ⟨g,0,none⟩:=by injection h1
  subst hA
  have:=World.ownsRow.lt h g rfl
  exact⟨g,rfl,this.1,this.2⟩
theorem stx {ops:Array Oper} {rest:List Oper} {Q:Exit->Act->World->Prop} {w:World} {a:Act} {o:Oper} {t:TypeId} {b p:Nat} {cs vs:List Value} {v:Value} {x y:Operand} (hw:Region.wanted o (yielded ops a.tmps)=true) (ho:o.op= .store t x y) (hx:a.eval x= .pointer (some ⟨b,p,none⟩)) (hy:a.eval y=v) (hv:v.cells.toList=vs) (h1: ∀u∈vs,u.oneCell'=true) (hi:(prog.info? t).map (·.size)=some vs.length) (hH:Holds w b cs) (hp:p+vs.length<=cs.length)
  (h:wpList prog ops Q rest (a.put o.dst undef) (w.setCells b p vs)):wpList prog ops Q (o::rest) a w:=by
 refine BigFrame.wpList_want hw fun K hK=> ?_
 have hP:=hK _ _ h
 unfold Oper.wp
 rw[ex_store ho hx hy hv h1 hi hH hp]
 exact hP
theorem good_ok {k:KK} (h:goodK k=true):OkK k:=by
 have h1:=goodK_size h
 have h2:=goodK_n h
 refine⟨by unfold maxLen;omega, ?_⟩
 show (decide (IntKind.i64.min<=k.n) && decide (k.n<=IntKind.i64.max))=true
 have e1:IntKind.i64.min= -9223372036854775808:=by decide
 have e2:IntKind.i64.max=9223372036854775807:=by decide
 rw[e1,e2,Bool.and_eq_true]
 exact⟨decide_eq_true (by omega),decide_eq_true (by omega)⟩
def goneR (r:RR):RR:=⟨r.b,zeroK,zeroD,r.n,true⟩
theorem ex_build77g {o:Oper} {a:Act} {w:World} {x c:Operand} {n:Nat} (ho:o.op= .build 174 #[(1,x),(2,c)]) (hx:a.eval x= .int .u64 (n:Nat)) (hc:a.eval c= .bool true):(execOp a.eval o).run prog w= .ok (.value (.agg (RR.mk 0 zeroK zeroD n true).cs.toArray)) w:=by
 have e:(Instr.build 174 #[(1, .int .u64 (n:Nat)),(2, .bool true)]).run prog w= .ok (.agg (RR.mk 0 zeroK zeroD n true).cs.toArray) w:=by kernel_rfl
 unfold execOp
 simp only[ho,List.map_toArray,List.map_cons,List.map_nil,hx,hc]
 simp[e]
theorem siz77 (r:RR):(prog.info? 174).map (·.size)=some r.cs.length:=by rw[rcs_length];kernel_rfl
theorem one77 (r:RR): ∀u∈r.cs,u.oneCell'=true:=by simp[RR.cs,KK.cs,DD.cs,VV.cs,Value.oneCell']
theorem leave37 (r:RR) (w:World) (h:Holds w r.b r.cs):Calls prog 211 #[.pointer (some ⟨r.b,0,none⟩)] w fun e w'=>e= .returned (.tuple #[])/\Holds w' r.b (goneR r).cs/\Fr w w' [r.b]:=by
 have HH:=hide h
 clear h
 go_enter func211,ntmps211
 go_wp2_with (first|go_skip|((with_reducible show wpList ..);first|((refine rd rfl (ex_load1 46 isAgg46 rfl rfl (uh HH) rfl) ?_);simp only[nn])|((refine rd rfl (ex_build77g rfl rfl rfl) ?_);simp only[nn])|((with_reducible apply stx (t:=174) (b:=r.b) (p:=0) (cs:=r.cs) (vs:=(RR.mk 0 zeroK zeroD r.n true).cs) (v:= .agg (RR.mk 0 zeroK zeroD r.n true).cs.toArray));(case hw=>rfl);(case ho=>rfl);(case hx=>rfl);(case hy=>rfl);(case hv=>exact rfl);(case h1=>exact one77 _);(case hi=>exact siz77 _);(case hH=>exact uh HH);(case hp=>exact(by simp[rcs_length]));simp only[nn])))
 go_end0
 refine⟨rfl, ?_,Fr.setCells _ _ _ _⟩
 have:=(uh HH).put 0 (RR.mk 0 zeroK zeroD r.n true).cs (by simp[rcs_length])
 exact this
theorem own_mono {w:World} {base base' e s n:Nat} {v:Value} {xs:List Value} (h:w.ownsRow base e s v n xs) (hb:base'<=base):w.ownsRow base' e s v n xs:=by
 obtain⟨h1,h2⟩:=h
 refine⟨h1, ?_⟩
 rcases h2 with h2|⟨g,cap,cur,rfl,h3,h4⟩
 ·exact .inl h2
 ·exact .inr ⟨g,cap,cur,rfl,Nat.le_trans hb h3,h4⟩
def TT.packed (T:TT) (m:Nat) (rv:Value):TT:=⟨T.t,m,rv,T.live,T.last⟩
theorem TT.packed_live (T:TT) (m:Nat) (rv:Value):(T.packed m rv).live=T.live:=by
 unfold TT.packed TT.live
 simp
theorem TT.packed_find (T:TT) (m:Nat) (rv:Value) (k:KK):(T.packed m rv).find k=T.find k:=by
 unfold TT.find
 rw[TT.packed_live]
theorem TT.live_rows {T:TT} (h:T.rows.length - T.live.length=0):T.live=T.rows:=by
 have h1:=T.live_le
 unfold TT.live at *
 rw[List.filter_eq_self]
 exact List.length_filter_eq_length_iff.1 (by omega)
structure TApart (T:TT):Prop where
 tm:T.t≠T.m
 tv: ∀g,T.rv.ownBlock=some g->g≠T.t/\g≠T.m/\g ∉ T.rows.map (·.b)
 tr:T.t ∉ T.rows.map (·.b)
 mr:T.m ∉ T.rows.map (·.b)
 rr:(T.rows.map (·.b)).Nodup
theorem TT.apart {T:TT} (h:T.blocks.Nodup):TApart T:=by
 unfold TT.blocks at h
 rw[List.nodup_cons,List.nodup_cons,List.nodup_append] at h
 obtain⟨h1,h2,h3,h4,h5⟩:=h
 simp only[List.mem_cons,List.mem_append,not_or] at h1 h2
 refine⟨h1.1,fun g hg=>⟨fun e=>h1.2.1 (by rw[hg,e];simp),fun e=>h2.1 (by rw[hg,e];simp),fun hm=>h5 g (by rw[hg];simp) g hm rfl⟩,h1.2.2,h2.2,h4⟩
theorem TApart.nodup {T:TT} (h:TApart T):T.blocks.Nodup:=by
 unfold TT.blocks
 rw[List.nodup_cons,List.nodup_cons,List.nodup_append]
 refine⟨?_, ?_, ?_,h.rr, ?_⟩
 ·simp only[List.mem_cons,List.mem_append,not_or]
  refine⟨h.tm,fun hm=> ?_,h.tr⟩
  exact(h.tv T.t (by simpa using hm)).1 rfl
 ·simp only[List.mem_append,not_or]
  exact⟨fun hm=>(h.tv T.m (by simpa using hm)).2.1 rfl,h.mr⟩
 ·cases T.rv.ownBlock<;>simp
 ·intro a ha b hb e
  subst e
  exact(h.tv a (by simpa using ha)).2.2 hb
theorem live_sub (T:TT): ∀b∈T.live.map (·.b),b∈T.rows.map (·.b):=by
 intro b hb
 obtain⟨r,hr,rfl⟩:=List.mem_map.1 hb
 exact List.mem_map.2 ⟨r,(List.mem_filter.1 hr).1,rfl⟩
theorem TApart.packed {T:TT} (h:TApart T) {m:Nat} {rv:Value} (hm:m=T.m∨m ∉ T.blocks) (hv: ∀g,rv.ownBlock=some g->(T.rv.ownBlock=some g∨g ∉ T.blocks)/\g≠m):TApart (T.packed m rv):=by
 have hmt:T.t≠m:=by
  rcases hm with rfl|hm
  ·exact h.tm
  ·intro e;exact hm (by rw[←e];simp[TT.blocks])
 have hrb: ∀b∈T.rows.map (·.b),b∈T.blocks:=fun b hb=>by
  unfold TT.blocks
  simp only[List.mem_cons,List.mem_append]
  exact .inr (.inr (.inr hb))
 refine⟨hmt,fun g hg=>⟨?_,(hv g hg).2, ?_⟩,fun hx=>h.tr (live_sub T _ hx),fun hx=> ?_, ?_⟩
 ·intro e
  rcases (hv g hg).1 with h1|h1
  ·exact(h.tv g h1).1 e
  ·exact h1 (by rw[e];simp[TT.blocks,TT.packed])
 ·intro hx
  rcases (hv g hg).1 with h1|h1
  ·exact(h.tv g h1).2.2 (live_sub T _ hx)
  ·exact h1 (hrb _ (live_sub T _ hx))
 ·rcases hm with rfl|hm
  ·exact h.mr (live_sub T _ hx)
  ·exact hm (hrb _ (live_sub T _ hx))
 ·exact List.Sublist.nodup (List.Sublist.map _ List.filter_sublist) h.rr
theorem TT.Is.pack {T:TT} {w X:World} {m:Nat} {rv:Value} (hT:T.Is w) (htab:Holds X T.t [.map (some m),rv, .int .u64 T.last]) (hmap:MapIs X m T.last T.live.length (fun k=>(T.find k).map (·.b))) (hown:OwnP X rv (T.live.map (·.b))) (hrows: ∀r∈T.live,Holds X r.b r.cs)
  (hm:m=T.m∨m ∉ T.blocks) (hv: ∀g,rv.ownBlock=some g->(T.rv.ownBlock=some g∨g ∉ T.blocks)/\g≠m):(T.packed m rv).Is X:=by
 have hf:(fun k=>((T.packed m rv).find k).map (·.b))=(fun k=>(T.find k).map (·.b)):=by
  funext k
  rw[TT.packed_find]
 refine⟨htab, ?_,hown,hrows,((TT.apart hT.nd).packed hm hv).nodup,hT.rise.sublist List.filter_sublist,fun r hr=>hT.num r (List.mem_filter.1 hr).1, ?_, ?_⟩
 ·rw[hf,TT.packed_live]
  exact hmap
 ·rw[TT.packed_live]
  exact hT.keys
 ·rw[TT.packed_live]
  exact hT.good
theorem mk_any {ops:Array Oper} {rest:List Oper} {Q:Exit->Act->World->Prop} {w:World} {a:Act} {o:Oper} {t e:TypeId} {size bytes:Nat} {z:Value} {c x:Operand} (n:Nat) (hw:Region.wanted o (yielded ops a.tmps)=true) (ho:o.op= .makeSlice t c x) (hc:a.eval c= .int .i64 0) (hx:a.eval x= .int .i64 (n:Nat))
  (ht:prog.underlying t=some (.slice e)) (hi:(prog.info? e).map (fun i=>(i.zero,i.size,i.bytes))=some (some z,size,bytes)) (hn:n<=100000) (hs:size<=100) (hby:bytes<=10000)
  (h: ∀wm,wm.ownsRow w.heap.size e size (.slice (some ⟨w.heap.size,0,none⟩) 0 n) 0 []->Below w.heap.size w wm->wpList prog ops Q rest (a.put o.dst (.slice (some ⟨w.heap.size,0,none⟩) 0 n)) wm):wpList prog ops Q (o::rest) a w:=by
 obtain⟨i0,hi,hz0,hz1,hz2⟩:=info_parts hi
 obtain⟨wm,hrun,hm1,hm2⟩:=run_makeSlice_owned (P:=prog) w w.heap.size t e i0 _ size ht hi hz0 hz1 .i64 .i64 n (Nat.le_trans (Nat.mul_le_mul hn hs) (by decide)) (by rw[hz2];exact Nat.le_trans (Nat.mul_le_mul hby hn) (by decide)) (by unfold maxLen;omega) (Nat.le_refl _)
 refine BigFrame.wpList_want hw fun K hK=> ?_
 have hP:=hK _ _ (h wm hm1 ⟨hm2.os,hm2.tape,hm2.output,hm2.size,fun k hk=>hm2.block k hk (by simp)⟩)
 unfold Oper.wp execOp
 simp only[ho,hc,hx]
 simp[hrun]
 exact hP
theorem ptrs_get (l:List RR) (j:Nat) (hj:j<l.length):(ptrs (l.map (·.b)))[0+j]? =some (.pointer (some ⟨l[j].b,0,none⟩)):=by
 simp[ptrs,hj]
theorem ptrs_one (l:List RR) (r:RR):ptrs ((l++ [r]).map (·.b))=ptrs (l.map (·.b))++ [.pointer (some ⟨r.b,0,none⟩)]:=by
 simp[ptrs]
def standing (l:List RR):List RR:=l.filter (fun r=> !r.gone)
theorem standing_take {l:List RR} {j:Nat} (hj:j<l.length):standing (l.take (j+1))=if l[j].gone then standing (l.take j) else standing (l.take j)++ [l[j]]:=by
 unfold standing
 rw[List.take_succ_eq_append_getElem hj,List.filter_append]
 cases h:l[j].gone<;>simp[h]
def CG (w1 wr:World) (v:Value) (l:List RR):Prop:=wr.ownsRow w1.heap.size 171 1 v l.length (ptrs (l.map (·.b)))/\Below w1.heap.size w1 wr
theorem standing_len (l:List RR):(standing l).length<=l.length:=List.length_filter_le _ _
theorem closeGaps39 (T:TT) (w:World) (hT:T.Is w) (hl:T.last<100000):Calls prog 224 #[.pointer (some ⟨T.t,0,none⟩)] w fun e w'=>e= .returned (.tuple #[])/\ ∃rv,(T.packed T.m rv).Is w'/\Fr w w' [T.t]/\(∀g,rv.ownBlock=some g->T.rv.ownBlock=some g∨w.heap.size<=g):=by
 have hlen:=hT.len
 have C38:=hide (gaps38 T w hT (by omega))
 by_cases h0:T.rows.length - T.live.length=0
 ·rw[h0] at C38
  have HT:=hide hT
  have he:T.packed T.m T.rv=T:=by
   unfold TT.packed
   rw[TT.live_rows h0]
  clear hT hlen hl h0
  go_enter func224,ntmps224
  go_wp2_with fail
  refine(uh C38).mono ?_
  rintro _ w1 ⟨rfl,hb⟩
  have HB:=hide hb
  clear hb
  go_wp2
  refine bodyPost_ret (results_none rfl _ _ _) rfl ?_
  exact⟨rfl,T.rv,by rw[he];exact(uh HT).on (uh HB),Fr.of_below (uh HB) _,fun g hg=> .inl hg⟩
 ·have hpos:0<T.rows.length:=by omega
  obtain⟨A,c,hrv⟩:=own_form hT.own
  have hown: ∀X,T.Is X->X.ownsRow 0 171 1 (.slice A (T.rows.map (·.b)).length c) (T.rows.map (·.b)).length (ptrs (T.rows.map (·.b))):=fun X hX=>hrv▸hX.own
  obtain⟨g,rfl, -, -⟩:=own_some (hown w hT) (by simpa using hpos)
  obtain⟨n,hn⟩: ∃n,n=T.rows.length:=⟨_,rfl⟩
  obtain⟨gp,hgp⟩: ∃gp,gp=T.rows.length - T.live.length:=⟨_,rfl⟩
  rw[←hgp] at C38
  have hgz: ¬((gp:Nat):Int)=0:=by omega
  have HV:Hid (∀X,T.Is X->Holds X T.t [.map (some T.m), .slice (some ⟨g,0,none⟩) n c, .int .u64 T.last]):=hide (fun X hX=>by
   have:=hX.tab
   unfold TT.cs at this
   rw[hrv,List.length_map,←hn] at this
   exact this)
  have HG:Hid (∀X,T.Is X->Holds X g (ptrs (T.rows.map (·.b)))):=hide (fun X hX=>own_holds (hown X hX))
  have hlv:T.live.length<=100000:=by have:=T.live_le;omega
  have HRV:=hide hrv
  have HT:=hide hT
  have HLT:=hide hT.lt
  have HAP:=hide (TT.apart hT.nd)
  have hn1:n<=100000:=by omega
  have Hn:=hide hn
  obtain⟨lv,hlv'⟩: ∃lv,lv=T.live.length:=⟨_,rfl⟩
  have HML:Hid (∀X,T.Is X->MapIs X T.m T.last lv (fun k=>(T.find k).map (·.b))):=hide (fun X hX=>hlv'▸hX.map)
  have hlv2:lv<=100000:=by omega
  clear hT hlen hl h0 hpos hrv hown hn hgp hlv hlv'
  go_enter func224,ntmps224
  go_wp2_with fail
  refine(uh C38).mono ?_
  rintro _ w1 ⟨rfl,hb⟩
  have HB:=hide hb
  have HT1:=hide ((uh HT).on hb)
  clear hb
  obtain⟨w2,hw2⟩: ∃w2,w2=w1:=⟨_,rfl⟩
  replace HT:=HT1
  go_wp2_with (first|go_skip|((with_reducible show wpList ..);first|((refine rd rfl (ex_load1 167 isAgg167 rfl rfl ((uh HV) _ (uh HT)) rfl) ?_);simp only[nn])|((refine rd rfl (ex_len rfl rfl ((uh HML) _ (uh HT))) ?_);simp only[nn])|((refine rd rfl (ex_load1 168 isAgg168 rfl rfl ((uh HV) _ (uh HT)) rfl) ?_);simp only[nn])|((refine mk_any (t:=168) (e:=171) (size:=1) (bytes:=8) (z:= .pointer none) lv (by rfl) rfl rfl rfl underlying168 info74 hlv2 (by decide) (by decide) ?_);intro wm hO hb;replace HT:=hide ((uh HT).on hb);have HC:Hid (CG w1 wm (.slice (some ⟨w1.heap.size,0,none⟩) 0 lv) []):=hide ⟨hO,hb⟩;clear hO hb;simp only[nn])))
  clear hgz C38
  go_loopg [2,4,19] n (fun gm s2 s4 s19 wr=> ∃j:Nat,s19= .int .i64 j/\j<=n/\n - j<=gm/\Hid (CG w1 wr s2 (standing (T.rows.take j))))
  case atStart=>exact⟨0,rfl,by omega,by omega,HC⟩
  case round=>
   obtain⟨j,rfl,hj,hg,HR⟩:=hrel
   have HTr:=hide ((uh HT1).on (uh HR).2)
   by_cases hjl:j<n
   ·have hjz:(j:Int)<n:=by omega
    have hjr:j<T.rows.length:=by have:=uh Hn;omega
    obtain⟨r,hr⟩: ∃r,r=T.rows[j]:=⟨_,rfl⟩
    have HP:Hid ((ptrs (T.rows.map (·.b)))[0+j]? =some (.pointer (some ⟨r.b,0,none⟩))):=hide (by rw[hr];exact ptrs_get T.rows j hjr)
    have HRr:=hide ((uh HTr).rows r (hr▸List.getElem_mem hjr))
    have HST:=hide (standing_take hjr)
    rw[←hr] at HST
    cases hgn:r.gone with
    |true=>
     have HR2:Hid (Holds wr r.b (r.k.cs++(r.d.cs++ [.int .u64 r.n, .bool true]))):=hide (hgn▸uh HRr)
     replace HR:Hid (CG w1 wr u2 (standing (T.rows.take (j+1)))):=hide (by rw[uh HST,hgn];exact uh HR)
     clear hr hgn HRr HST
     go_wp2_with (first|go_skip|((with_reducible show wpList ..);first|((refine rd rfl (ex_index70 (off:=0) j rfl rfl rfl hjl) ?_);simp only[nn])|((refine rd rfl (ex_load1 171 isAgg171 rfl rfl ((uh HG) _ (uh HTr)) (uh HP)) ?_);simp only[nn])|((refine rd rfl (ex_load1 4 isAgg4 rfl rfl (uh HR2) rfl) ?_);simp only[nn])))
     go_roundg (n - (j+1))
     case measure=>omega
     case rel=>exact⟨j+1,by go_num,by omega,Nat.le_refl _,HR⟩
    |false=>
     have HR2:Hid (Holds wr r.b (r.k.cs++(r.d.cs++ [.int .u64 r.n, .bool false]))):=hide (hgn▸uh HRr)
     have HST2:Hid (standing (T.rows.take (j+1))=standing (T.rows.take j)++ [r]):=hide (by rw[uh HST,hgn];rfl)
     have hsl:Hid ((standing (T.rows.take j)).length+1<=4000000):=hide (by have h1:=standing_len (T.rows.take j);rw[List.length_take] at h1;omega)
     clear hr hgn HRr HST
     go_wp2_with (first|go_skip|((with_reducible show wpList ..);first|((refine rd rfl (ex_index70 (off:=0) j rfl rfl rfl hjl) ?_);simp only[nn])|((refine rd rfl (ex_load1 171 isAgg171 rfl rfl ((uh HG) _ (uh HTr)) (uh HP)) ?_);simp only[nn])|((refine rd rfl (ex_load1 4 isAgg4 rfl rfl (uh HR2) rfl) ?_);simp only[nn])|((refine build_any (t:=168) (e:=171) (size:=1) (bytes:=8) (z:= .pointer none) (cs:= [.pointer (some ⟨r.b,0,none⟩)]) (by rfl) rfl rfl underlying168 info74 (by decide) rfl rfl (by decide) (Hq.nil wr []) ?_);intro w5 B5 hB5 L5 hb5;have LL:=hide L5;have HR5:Hid (CG w1 w5 u2 (standing (T.rows.take j))):=hide ⟨own_block (uh HR).1 (fun b hb=>hb5.block b (World.ownsRow.lt (uh HR).1 b hb).2),(uh HR).2.trans (hb5.mono (uh HR).2.size)⟩;clear L5 hb5 hB5;simp only[nn])|((refine append_any (v:=u2) rfl rfl rfl rfl underlying168 info74 rfl (by decide) (uh HR5).1 ((uh LL).get 0 rfl) rfl (by simp[Value.oneCell']) (uh hsl) (by decide) (uh HR5).2.size ?_);intro A6 c6 w6 ho6 hg6 hf6;have HR6:Hid (CG w1 w6 (.slice A6 ((standing (T.rows.take j)).length+1) c6) (standing (T.rows.take (j+1)))):=hide ⟨by rw[uh HST2,ptrs_one,List.length_append];exact ho6,(((Fr.of_below (uh HR5).2 []).trans (Fr.grown hg6) (fun b hb=>Or.inr (World.ownsRow.lt (uh HR5).1 b (by simpa using hb)).1)).below)⟩;clear ho6 hg6 hf6;simp only[nn])))
     go_roundg (n - (j+1))
     case measure=>omega
     case rel=>exact⟨j+1,by go_num,by omega,Nat.le_refl _,HR6⟩
   ·have hjz: ¬(j:Int)<n:=by omega
    have hst:standing (T.rows.take j)=T.live:=by
     have:j=T.rows.length:=by have:=uh Hn;omega
     rw[this,List.take_length]
     rfl
    rw[hst] at HR
    obtain⟨A6,c6,rfl⟩:=own_form (uh HR).1
    have HBr:=hide ((uh HB).trans ((uh HR).2.mono (uh HB).size))
    have hts:T.t<w.heap.size:=(uh HLT) T.t (by simp[TT.blocks])
    have hws:=(uh HB).size
    clear hst
    go_wp2_with (first|go_skip|((with_reducible show wpList ..);first|((with_reducible apply stx (t:=168) (b:=T.t) (p:=1) (cs:= [.map (some T.m), .slice (some ⟨g,0,none⟩) n c, .int .u64 T.last]) (vs:= [.slice A6 T.live.length c6]) (v:= .slice A6 T.live.length c6));(case hw=>rfl);(case ho=>rfl);(case hx=>rfl);(case hy=>rfl);(case hv=>exact rfl);(case h1=>exact(by simp[Value.oneCell']));(case hi=>exact siz70);(case hH=>exact(uh HV) _ (uh HTr));(case hp=>exact(by simp));simp only[nn])))
    go_end0
    refine⟨rfl, .slice A6 T.live.length c6, ?_,(Fr.of_below (uh HBr) [T.t]).trans (Fr.setCells _ _ _ _) (fun b hb=> .inl hb),fun b hb=> .inr ?_⟩
    ·have hap:=uh HAP
     have hne: ∀b,b≠T.t->(wr.setCells T.t 1 [.slice A6 T.live.length c6]).heap[b]? =wr.heap[b]? :=fun b hb=>heap_setCells _ _ _ _ _ hb
     refine TT.Is.pack (uh HT1) ((((uh HV) _ (uh HTr)).put 1 [.slice A6 T.live.length c6] (by simp))) ((uh HTr).map.block (hne _ hap.tm.symm)) ?_ (fun r hr=>((uh HTr).rows r (List.mem_filter.1 hr).1).block (hne _ (fun e=>hap.tr (e▸List.mem_map.2 ⟨r,(List.mem_filter.1 hr).1,rfl⟩)))) (.inl rfl) (fun b hb=> ?_)
     ·have h1:=own_block (w':=wr.setCells T.t 1 [.slice A6 T.live.length c6]) (uh HR).1 (fun b hb=>hne b (by have:=(World.ownsRow.lt (uh HR).1 b hb).1;omega))
      unfold OwnP
      rw[List.length_map]
      exact own_mono h1 (Nat.zero_le _)
     ·have h2:=(World.ownsRow.lt (uh HR).1 b hb).1
      refine⟨.inr (fun hm=> ?_),fun e=> ?_⟩
      ·have:=(uh HLT) b hm
       omega
      ·have:=(uh HLT) T.m (by simp[TT.blocks])
       omega
    ·have h2:=(World.ownsRow.lt (uh HR).1 b hb).1
     omega
