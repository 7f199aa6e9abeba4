import Derived.Test.YtieahhciibdnaaaGreatDoorQp
set_option linter.all false
namespace Go.Proofs.YtieahhciibdnaaaGreatDoor
set_option maxRecDepth 100000
set_option maxHeartbeats 0
section
open Go Go.Proofs Go.Maps Go.RowKit Tryz
theorem Zt {w:World} {base e s n g c:Nat} {xs:List Value} (h:w.ownsRow base e s (.slice (some ⟨g,0,none⟩) n c) n xs):Holds w g xs:=by
 refine⟨fun j=> ?_,fun j u hu=> ?_⟩
 ·rcases h.2 with ⟨h1, -⟩|⟨g',cap,cur,h1,h2,h3, -⟩
  ·cases h1
  ·cases h1
   simp[World.frozen?,h3]
 ·have:=h.cells (g:=g) rfl j u hu
  rwa [Addr.add_mid] at this
theorem TT.find_none {T:TT} {k:KK} (h:T.find k=none): ∀r∈T.live,r.k≠k:=by
 intro r hr
 have:=List.find?_eq_none.1 h r hr
 simpa using this
theorem Vq {α β:Type} {f:α->β} {l:List α} (h:l.Pairwise (fun a b=>f a≠f b)) {a b:α} (ha:a∈l) (hb:b∈l) (he:f a=f b):a=b:=by
 induction l with
 |nil=>cases ha
 |cons x l ih=>
  obtain⟨h1,h2⟩:=List.pairwise_cons.1 h
  rcases List.mem_cons.1 ha with e1|ha'
  ·rcases List.mem_cons.1 hb with e2|hb'
   ·rw[e1,e2]
   ·rw[e1] at he
    exact absurd he (h1 b hb')
  ·rcases List.mem_cons.1 hb with e2|hb'
   ·rw[e2] at he
    exact absurd he.symm (h1 a ha')
   ·exact ih h2 ha' hb'
theorem Zbg {w:World} {base e s n:Nat} {A:Option Addr} {c:Nat} {xs:List Value} (h:w.ownsRow base e s (.slice A n c) n xs) (hn:0<n): ∃g,A=some ⟨g,0,none⟩/\base<=g/\g<w.heap.size:=by
 rcases h.2 with ⟨h1,h2⟩|⟨g,cap,cur,h1,h2⟩
 ·omega
 ·have hA:A=some ⟨g,0,none⟩:=by injection h1
  subst hA
  have:=World.ownsRow.lt h g rfl
  exact⟨g,rfl,this.1,this.2⟩
theorem stx {ops:Array Oper} {rest:List Oper} {Q:Exit->Act->World->Prop} {w:World} {a:Act} {o:Oper} {t:TypeId} {b p:Nat} {cs vs:List Value} {v:Value} {x y:Operand} (hw:Region.wanted o (yielded ops a.tmps)=true) (ho:o.op= .store t x y) (hx:a.eval x= .pointer (some ⟨b,p,none⟩)) (hy:a.eval y=v) (hv:v.cells.toList=vs) (h1: ∀u∈vs,u.oneCell'=true) (hi:(prog.info? t).map (·.size)=some vs.length) (hH:Holds w b cs) (hp:p+vs.length<=cs.length)
  (h:wpList prog ops Q rest (a.put o.dst undef) (w.setCells b p vs)):wpList prog ops Q (o::rest) a w:=by
 refine BigFrame.wpList_want hw fun K hK=> ?_
 have hP:=hK _ _ h
 unfold Oper.wp
 rw[Gb ho hx hy hv h1 hi hH hp]
 exact hP
theorem good_ok {k:KK} (h:goodK k=true):OkK k:=by
 have h1:=Oy h
 have h2:=goodK_n h
 refine⟨by unfold maxLen;omega, ?_⟩
 show (decide (IntKind.i64.min<=k.n) && decide (k.n<=IntKind.i64.max))=true
 have e1:IntKind.i64.min= -9223372036854775808:=by decide
 have e2:IntKind.i64.max=9223372036854775807:=by decide
 rw[e1,e2,Bool.and_eq_true]
 exact⟨decide_eq_true (by omega),decide_eq_true (by omega)⟩
def Xt (r:RR):RR:=⟨r.b,Gv,Ar,r.n,true⟩
theorem ZbP {o:Oper} {a:Act} {w:World} {x c:Operand} {n:Nat} (ho:o.op= .build 198 #[(1,x),(2,c)]) (hx:a.eval x= .int .u64 (n:Nat)) (hc:a.eval c= .bool true):(execOp a.eval o).run prog w= .ok (.value (.agg (RR.mk 0 Gv Ar n true).cs.toArray)) w:=by
 have e:(Instr.build 198 #[(1, .int .u64 (n:Nat)),(2, .bool true)]).run prog w= .ok (.agg (RR.mk 0 Gv Ar n true).cs.toArray) w:=by kernel_rfl
 unfold execOp
 simp only[ho,List.map_toArray,List.map_cons,List.map_nil,hx,hc]
 simp[e]
theorem siz77 (r:RR):(prog.info? 198).map (·.size)=some r.cs.length:=by rw[Dz];kernel_rfl
theorem one77 (r:RR): ∀u∈r.cs,u.oneCell'=true:=by simp[RR.cs,KK.cs,DD.cs,VV.cs,Value.oneCell']
theorem leave37 (r:RR) (w:World) (h:Holds w r.b r.cs):Calls prog 174 #[.pointer (some ⟨r.b,0,none⟩)] w fun e w'=>e= .returned (.tuple #[])/\Holds w' r.b (Xt r).cs/\Fr w w' [r.b]:=by
 have HH:=Ab h
 clear h
 go_enter func174,ntmps174
 go_wp2_with (first|go_skip|((with_reducible show wpList ..);first|(refine rd rfl (Ag 105 isAgg105 rfl rfl (Aa HH) rfl) ?_)|(refine rd rfl (ZbP rfl rfl rfl) ?_)|((with_reducible apply stx (t:=198) (b:=r.b) (p:=0) (cs:=r.cs) (vs:=(RR.mk 0 Gv Ar r.n true).cs) (v:= .agg (RR.mk 0 Gv Ar r.n true).cs.toArray));(case hw|ho|hx|hy=>rfl);(case hv=>exact rfl);(case h1=>exact one77 _);(case hi=>exact siz77 _);(case hH=>exact Aa HH);(case hp=>exact(by simp[Dz]));simp only[nn])))
 go_end0
 refine⟨rfl, ?_,Fr.setCells _ _ _ _⟩
 have:=(Aa HH).put 0 (RR.mk 0 Gv Ar r.n true).cs (by simp[Dz])
 exact this
theorem Vs {w:World} {base base' e s n:Nat} {v:Value} {xs:List Value} (h:w.ownsRow base e s v n xs) (hb:base'<=base):w.ownsRow base' e s v n xs:=by
 obtain⟨h1,h2⟩:=h
 refine⟨h1, ?_⟩
 rcases h2 with h2|⟨g,cap,cur,rfl,h3,h4⟩
 ·exact .inl h2
 ·exact .inr ⟨g,cap,cur,rfl,Nat.le_trans hb h3,h4⟩
def TT.packed (T:TT) (m:Nat) (rv:Value):TT:=⟨T.t,m,rv,T.live,T.last⟩
theorem TT.packed_live (T:TT) (m:Nat) (rv:Value):(T.packed m rv).live=T.live:=by
 unfold TT.packed TT.live
 simp
theorem TT.packed_find (T:TT) (m:Nat) (rv:Value) (k:KK):(T.packed m rv).find k=T.find k:=by
 unfold TT.find
 rw[TT.packed_live]
theorem TT.live_rows {T:TT} (h:T.rows.length - T.live.length=0):T.live=T.rows:=by
 have h1:=T.live_le
 unfold TT.live at *
 rw[List.filter_eq_self]
 exact List.length_filter_eq_length_iff.1 (by omega)
structure TApart (T:TT):Prop where
 tm:T.t≠T.m
 tv: ∀g,T.rv.ownBlock=some g->g≠T.t/\g≠T.m/\g ∉ T.rows.map (·.b)
 tr:T.t ∉ T.rows.map (·.b)
 mr:T.m ∉ T.rows.map (·.b)
 rr:(T.rows.map (·.b)).Nodup
theorem TT.apart {T:TT} (h:T.blocks.Nodup):TApart T:=by
 unfold TT.blocks at h
 rw[List.nodup_cons,List.nodup_cons,List.nodup_append] at h
 obtain⟨h1,h2,h3,h4,h5⟩:=h
 simp only[List.mem_cons,List.mem_append,not_or] at h1 h2
 refine⟨h1.1,fun g hg=>⟨fun e=>h1.2.1 (by rw[hg,e];simp),fun e=>h2.1 (by rw[hg,e];simp),fun hm=>h5 g (by rw[hg];simp) g hm rfl⟩,h1.2.2,h2.2,h4⟩
theorem TApart.nodup {T:TT} (h:TApart T):T.blocks.Nodup:=by
 unfold TT.blocks
 rw[List.nodup_cons,List.nodup_cons,List.nodup_append]
 refine⟨?_, ?_, ?_,h.rr, ?_⟩
 ·simp only[List.mem_cons,List.mem_append,not_or]
  refine⟨h.tm,fun hm=> ?_,h.tr⟩
  exact(h.tv T.t (by simpa using hm)).1 rfl
 ·simp only[List.mem_append,not_or]
  exact⟨fun hm=>(h.tv T.m (by simpa using hm)).2.1 rfl,h.mr⟩
 ·cases T.rv.ownBlock<;>simp
 ·intro a ha b hb e
  subst e
  exact(h.tv a (by simpa using ha)).2.2 hb
theorem Mc (T:TT): ∀b∈T.live.map (·.b),b∈T.rows.map (·.b):=by
 intro b hb
 obtain⟨r,hr,rfl⟩:=List.mem_map.1 hb
 exact List.mem_map.2 ⟨r,(List.mem_filter.1 hr).1,rfl⟩
theorem TApart.packed {T:TT} (h:TApart T) {m:Nat} {rv:Value} (hm:m=T.m∨m ∉ T.blocks) (hv: ∀g,rv.ownBlock=some g->(T.rv.ownBlock=some g∨g ∉ T.blocks)/\g≠m):TApart (T.packed m rv):=by
 have hmt:T.t≠m:=by
  rcases hm with rfl|hm
  ·exact h.tm
  ·intro e;exact hm (by rw[←e];simp[TT.blocks])
 have hrb: ∀b∈T.rows.map (·.b),b∈T.blocks:=fun b hb=>by
  unfold TT.blocks
  simp only[List.mem_cons,List.mem_append]
  exact .inr (.inr (.inr hb))
 refine⟨hmt,fun g hg=>⟨?_,(hv g hg).2, ?_⟩,fun hx=>h.tr (Mc T _ hx),fun hx=> ?_, ?_⟩
 ·intro e
  rcases (hv g hg).1 with h1|h1
  ·exact(h.tv g h1).1 e
  ·exact h1 (by rw[e];simp[TT.blocks,TT.packed])
 ·intro hx
  rcases (hv g hg).1 with h1|h1
  ·exact(h.tv g h1).2.2 (Mc T _ hx)
  ·exact h1 (hrb _ (Mc T _ hx))
 ·rcases hm with rfl|hm
  ·exact h.mr (Mc T _ hx)
  ·exact hm (hrb _ (Mc T _ hx))
 ·exact List.Sublist.nodup (List.Sublist.map _ List.filter_sublist) h.rr
theorem TT.Is.pack {T:TT} {w X:World} {m:Nat} {rv:Value} (hT:T.Is w) (htab:Holds X T.t [.map (some m),rv, .int .u64 T.last]) (hmap:MapIs X m T.last T.live.length (fun k=>(T.find k).map (·.b))) (hown:OwnP X rv (T.live.map (·.b))) (hrows: ∀r∈T.live,Holds X r.b r.cs)
  (hm:m=T.m∨m ∉ T.blocks) (hv: ∀g,rv.ownBlock=some g->(T.rv.ownBlock=some g∨g ∉ T.blocks)/\g≠m):(T.packed m rv).Is X:=by
 have hf:(fun k=>((T.packed m rv).find k).map (·.b))=(fun k=>(T.find k).map (·.b)):=by
  funext k
  rw[TT.packed_find]
 refine⟨htab, ?_,hown,hrows,((TT.apart hT.nd).packed hm hv).nodup,hT.rise.sublist List.filter_sublist,fun r hr=>hT.num r (List.mem_filter.1 hr).1, ?_, ?_⟩
 ·rw[hf,TT.packed_live]
  exact hmap
 ·rw[TT.packed_live]
  exact hT.keys
 ·rw[TT.packed_live]
  exact hT.good
theorem mk_any {ops:Array Oper} {rest:List Oper} {Q:Exit->Act->World->Prop} {w:World} {a:Act} {o:Oper} {t e:TypeId} {size bytes:Nat} {z:Value} {c x:Operand} (n:Nat) (hw:Region.wanted o (yielded ops a.tmps)=true) (ho:o.op= .makeSlice t c x) (hc:a.eval c= .int .i64 0) (hx:a.eval x= .int .i64 (n:Nat))
  (ht:prog.underlying t=some (.slice e)) (hi:(prog.info? e).map (fun i=>(i.zero,i.size,i.bytes))=some (some z,size,bytes)) (hn:n<=100000) (hs:size<=100) (hby:bytes<=10000)
  (h: ∀wm,wm.ownsRow w.heap.size e size (.slice (some ⟨w.heap.size,0,none⟩) 0 n) 0 []->Below w.heap.size w wm->wpList prog ops Q rest (a.put o.dst (.slice (some ⟨w.heap.size,0,none⟩) 0 n)) wm):wpList prog ops Q (o::rest) a w:=by
 obtain⟨i0,hi,hz0,hz1,hz2⟩:=info_parts hi
 obtain⟨wm,hrun,hm1,hm2⟩:=run_makeSlice_owned (P:=prog) w w.heap.size t e i0 _ size ht hi hz0 hz1 .i64 .i64 n (Nat.le_trans (Nat.mul_le_mul hn hs) (by decide)) (by rw[hz2];exact Nat.le_trans (Nat.mul_le_mul hby hn) (by decide)) (by unfold maxLen;omega) (Nat.le_refl _)
 refine BigFrame.wpList_want hw fun K hK=> ?_
 have hP:=hK _ _ (h wm hm1 ⟨hm2.os,hm2.tape,hm2.output,hm2.size,fun k hk=>hm2.block k hk (by simp)⟩)
 unfold Oper.wp execOp
 simp only[ho,hc,hx]
 simp[hrun]
 exact hP
theorem Zbf (l:List RR) (j:Nat) (hj:j<l.length):(My (l.map (·.b)))[0+j]? =some (.pointer (some ⟨l[j].b,0,none⟩)):=by
 simp[My,hj]
theorem ptrs_one (l:List RR) (r:RR):My ((l++ [r]).map (·.b))=My (l.map (·.b))++ [.pointer (some ⟨r.b,0,none⟩)]:=by
 simp[My]
def Er (l:List RR):List RR:=l.filter (fun r=> !r.gone)
theorem Za {l:List RR} {j:Nat} (hj:j<l.length):Er (l.take (j+1))=if l[j].gone then Er (l.take j) else Er (l.take j)++ [l[j]]:=by
 unfold Er
 rw[List.take_succ_eq_append_getElem hj,List.filter_append]
 cases h:l[j].gone<;>simp[h]
def CG (w1 wr:World) (v:Value) (l:List RR):Prop:=wr.ownsRow w1.heap.size 195 1 v l.length (My (l.map (·.b)))/\Below w1.heap.size w1 wr
theorem Zaq (l:List RR):(Er l).length<=l.length:=List.length_filter_le _ _
theorem ZbU (T:TT) (w:World) (hT:T.Is w) (hl:T.last<100000):Calls prog 182 #[.pointer (some ⟨T.t,0,none⟩)] w fun e w'=>e= .returned (.tuple #[])/\ ∃rv,(T.packed T.m rv).Is w'/\Fr w w' [T.t]/\(∀g,rv.ownBlock=some g->T.rv.ownBlock=some g∨w.heap.size<=g):=by
 have hlen:=hT.len
 have C38:=Ab (gaps38 T w hT (by omega))
 by_cases h0:T.rows.length - T.live.length=0
 ·rw[h0] at C38
  have HT:=Ab hT
  have he:T.packed T.m T.rv=T:=by
   unfold TT.packed
   rw[TT.live_rows h0]
  clear hT hlen hl h0
  go_enter func182,ntmps182
  go_wp2_with fail
  refine(Aa C38).mono ?_
  rintro _ w1 ⟨rfl,hb⟩
  have HB:=Ab hb
  clear hb
  go_wp2
  refine bodyPost_ret (results_none rfl _ _ _) rfl ?_
  exact⟨rfl,T.rv,by rw[he];exact(Aa HT).on (Aa HB),Fr.of_below (Aa HB) _,fun g hg=> .inl hg⟩
 ·have hpos:0<T.rows.length:=by omega
  obtain⟨A,c,hrv⟩:=Jf hT.own
  have hown: ∀X,T.Is X->X.ownsRow 0 195 1 (.slice A (T.rows.map (·.b)).length c) (T.rows.map (·.b)).length (My (T.rows.map (·.b))):=fun X hX=>hrv▸hX.own
  obtain⟨g,rfl, -, -⟩:=Zbg (hown w hT) (by simpa using hpos)
  obtain⟨n,hn⟩: ∃n,n=T.rows.length:=⟨_,rfl⟩
  obtain⟨gp,hgp⟩: ∃gp,gp=T.rows.length - T.live.length:=⟨_,rfl⟩
  rw[←hgp] at C38
  have hgz: ¬((gp:Nat):Int)=0:=by omega
  have HV:Hid (∀X,T.Is X->Holds X T.t [.map (some T.m), .slice (some ⟨g,0,none⟩) n c, .int .u64 T.last]):=Ab (fun X hX=>by
   have:=hX.tab
   unfold TT.cs at this
   rw[hrv,List.length_map,←hn] at this
   exact this)
  have HG:Hid (∀X,T.Is X->Holds X g (My (T.rows.map (·.b)))):=Ab (fun X hX=>Zt (hown X hX))
  have hlv:T.live.length<=100000:=by have:=T.live_le;omega
  have HRV:=Ab hrv
  have HT:=Ab hT
  have HLT:=Ab hT.lt
  have HAP:=Ab (TT.apart hT.nd)
  have hn1:n<=100000:=by omega
  have Hn:=Ab hn
  obtain⟨lv,hlv'⟩: ∃lv,lv=T.live.length:=⟨_,rfl⟩
  have HML:Hid (∀X,T.Is X->MapIs X T.m T.last lv (fun k=>(T.find k).map (·.b))):=Ab (fun X hX=>hlv'▸hX.map)
  have hlv2:lv<=100000:=by omega
  clear hT hlen hl h0 hpos hrv hown hn hgp hlv hlv'
  go_enter func182,ntmps182
  go_wp2_with fail
  refine(Aa C38).mono ?_
  rintro _ w1 ⟨rfl,hb⟩
  have HB:=Ab hb
  have HT1:=Ab ((Aa HT).on hb)
  clear hb
  obtain⟨w2,hw2⟩: ∃w2,w2=w1:=⟨_,rfl⟩
  replace HT:=HT1
  go_wp2_with (first|go_skip|((with_reducible show wpList ..);first|(refine rd rfl (Ag 162 isAgg162 rfl rfl ((Aa HV) _ (Aa HT)) rfl) ?_)|(refine rd rfl (Zcw rfl rfl ((Aa HML) _ (Aa HT))) ?_)|(refine rd rfl (Ag 163 isAgg163 rfl rfl ((Aa HV) _ (Aa HT)) rfl) ?_)|((refine mk_any (t:=163) (e:=195) (size:=1) (bytes:=8) (z:= .pointer none) lv (by rfl) rfl rfl rfl underlying163 Xn hlv2 (by decide) (by decide) ?_);intro wm hO hb;replace HT:=Ab ((Aa HT).on hb);have HC:Hid (CG w1 wm (.slice (some ⟨w1.heap.size,0,none⟩) 0 lv) []):=Ab ⟨hO,hb⟩;clear hO hb;simp only[nn])))
  clear hgz C38
  go_loopg [2,4,19] n (fun gm s2 s4 s19 wr=> ∃j:Nat,s19= .int .i64 j/\j<=n/\n - j<=gm/\Hid (CG w1 wr s2 (Er (T.rows.take j))))
  case atStart=>exact⟨0,rfl,by omega,by omega,HC⟩
  case round=>
   obtain⟨j,rfl,hj,hg,HR⟩:=hrel
   have HTr:=Ab ((Aa HT1).on (Aa HR).2)
   by_cases hjl:j<n
   ·have hjz:(j:Int)<n:=by omega
    have hjr:j<T.rows.length:=by have:=Aa Hn;omega
    obtain⟨r,hr⟩: ∃r,r=T.rows[j]:=⟨_,rfl⟩
    have HP:Hid ((My (T.rows.map (·.b)))[0+j]? =some (.pointer (some ⟨r.b,0,none⟩))):=Ab (by rw[hr];exact Zbf T.rows j hjr)
    have HRr:=Ab ((Aa HTr).rows r (hr▸List.getElem_mem hjr))
    have HST:=Ab (Za hjr)
    rw[←hr] at HST
    cases hgn:r.gone with
    |true=>
     have HR2:Hid (Holds wr r.b (r.k.cs++(r.d.cs++ [.int .u64 r.n, .bool true]))):=Ab (hgn▸Aa HRr)
     replace HR:Hid (CG w1 wr u2 (Er (T.rows.take (j+1)))):=Ab (by rw[Aa HST,hgn];exact Aa HR)
     clear hr hgn HRr HST
     go_wp2_with (first|go_skip|((with_reducible show wpList ..);first|(refine rd rfl (Pa (off:=0) j rfl rfl rfl hjl) ?_)|(refine rd rfl (Ag 195 isAgg195 rfl rfl ((Aa HG) _ (Aa HTr)) (Aa HP)) ?_)|(refine rd rfl (Ag 4 isAgg4 rfl rfl (Aa HR2) rfl) ?_)))
     go_roundg (n - (j+1))
     case measure=>omega
     case rel=>exact⟨j+1,by go_num,by omega,Nat.le_refl _,HR⟩
    |false=>
     have HR2:Hid (Holds wr r.b (r.k.cs++(r.d.cs++ [.int .u64 r.n, .bool false]))):=Ab (hgn▸Aa HRr)
     have HST2:Hid (Er (T.rows.take (j+1))=Er (T.rows.take j)++ [r]):=Ab (by rw[Aa HST,hgn];rfl)
     have hsl:Hid ((Er (T.rows.take j)).length+1<=4000000):=Ab (by have h1:=Zaq (T.rows.take j);rw[List.length_take] at h1;omega)
     clear hr hgn HRr HST
     go_wp2_with (first|go_skip|((with_reducible show wpList ..);first|(refine rd rfl (Pa (off:=0) j rfl rfl rfl hjl) ?_)|(refine rd rfl (Ag 195 isAgg195 rfl rfl ((Aa HG) _ (Aa HTr)) (Aa HP)) ?_)|(refine rd rfl (Ag 4 isAgg4 rfl rfl (Aa HR2) rfl) ?_)|((refine Zai (t:=163) (e:=195) (size:=1) (bytes:=8) (z:= .pointer none) (cs:= [.pointer (some ⟨r.b,0,none⟩)]) (by rfl) rfl rfl underlying163 Xn (by decide) rfl rfl (by decide) (Hq.nil wr []) ?_);intro w5 B5 hB5 L5 hb5;have LL:=Ab L5;have HR5:Hid (CG w1 w5 u2 (Er (T.rows.take j))):=Ab ⟨Rf (Aa HR).1 (fun b hb=>hb5.block b (World.ownsRow.lt (Aa HR).1 b hb).2),(Aa HR).2.trans (hb5.mono (Aa HR).2.size)⟩;clear L5 hb5 hB5;simp only[nn])|((refine Pg (v:=u2) rfl rfl rfl rfl underlying163 Xn rfl (by decide) (Aa HR5).1 ((Aa LL).get 0 rfl) rfl (by simp[Value.oneCell']) (Aa hsl) (by decide) (Aa HR5).2.size ?_);intro A6 c6 w6 ho6 hg6 hf6;have HR6:Hid (CG w1 w6 (.slice A6 ((Er (T.rows.take j)).length+1) c6) (Er (T.rows.take (j+1)))):=Ab ⟨by rw[Aa HST2,ptrs_one,List.length_append];exact ho6,(((Fr.of_below (Aa HR5).2 []).trans (Fr.grown hg6) (fun b hb=>Or.inr (World.ownsRow.lt (Aa HR5).1 b (by simpa using hb)).1)).below)⟩;clear ho6 hg6 hf6;simp only[nn])))
     go_roundg (n - (j+1))
     case measure=>omega
     case rel=>exact⟨j+1,by go_num,by omega,Nat.le_refl _,HR6⟩
   ·have hjz: ¬(j:Int)<n:=by omega
    have hst:Er (T.rows.take j)=T.live:=by
     have:j=T.rows.length:=by have:=Aa Hn;omega
     rw[this,List.take_length]
     rfl
    rw[hst] at HR
    obtain⟨A6,c6,rfl⟩:=Jf (Aa HR).1
    have HBr:=Ab ((Aa HB).trans ((Aa HR).2.mono (Aa HB).size))
    have hts:T.t<w.heap.size:=(Aa HLT) T.t (by simp[TT.blocks])
    have hws:=(Aa HB).size
    clear hst
    go_wp2_with (first|go_skip|((with_reducible show wpList ..);first|((with_reducible apply stx (t:=163) (b:=T.t) (p:=1) (cs:= [.map (some T.m), .slice (some ⟨g,0,none⟩) n c, .int .u64 T.last]) (vs:= [.slice A6 T.live.length c6]) (v:= .slice A6 T.live.length c6));(case hw|ho|hx|hy=>rfl);(case hv=>exact rfl);(case h1=>exact(by simp[Value.oneCell']));(case hi=>exact siz70);(case hH=>exact(Aa HV) _ (Aa HTr));(case hp=>exact(by simp));simp only[nn])))
    go_end0
    refine⟨rfl, .slice A6 T.live.length c6, ?_,(Fr.of_below (Aa HBr) [T.t]).trans (Fr.setCells _ _ _ _) (fun b hb=> .inl hb),fun b hb=> .inr ?_⟩
    ·have hap:=Aa HAP
     have hne: ∀b,b≠T.t->(wr.setCells T.t 1 [.slice A6 T.live.length c6]).heap[b]? =wr.heap[b]? :=fun b hb=>Ev _ _ _ _ _ hb
     refine TT.Is.pack (Aa HT1) ((((Aa HV) _ (Aa HTr)).put 1 [.slice A6 T.live.length c6] (by simp))) ((Aa HTr).map.block (hne _ hap.tm.symm)) ?_ (fun r hr=>((Aa HTr).rows r (List.mem_filter.1 hr).1).block (hne _ (fun e=>hap.tr (e▸List.mem_map.2 ⟨r,(List.mem_filter.1 hr).1,rfl⟩)))) (.inl rfl) (fun b hb=> ?_)
     ·have h1:=Rf (w':=wr.setCells T.t 1 [.slice A6 T.live.length c6]) (Aa HR).1 (fun b hb=>hne b (by have:=(World.ownsRow.lt (Aa HR).1 b hb).1;omega))
      unfold OwnP
      rw[List.length_map]
      exact Vs h1 (Nat.zero_le _)
     ·have h2:=(World.ownsRow.lt (Aa HR).1 b hb).1
      refine⟨.inr (fun hm=> ?_),fun e=> ?_⟩
      ·have:=(Aa HLT) b hm
       omega
      ·have:=(Aa HLT) T.m (by simp[TT.blocks])
       omega
    ·have h2:=(World.ownsRow.lt (Aa HR).1 b hb).1
     omega
theorem run_mm (n:Nat) (w:World):(Instr.makeMap 162 (some (.int .i64 (n:Nat)))).run prog w= .ok (.map (some w.heap.size)) (w.alloc (.map #[] 0)):=by
 simp[Instr.makeMap,go_sem]
theorem siz69:(prog.info? 162).map (·.size)=some 1:=by kernel_rfl
theorem ex_mm {o:Oper} {a:Act} {w:World} {x:Operand} {n:Nat} (ho:o.op= .makeMap 162 (some x)) (hx:a.eval x= .int .i64 (n:Nat)):(execOp a.eval o).run prog w= .ok (.value (.map (some w.heap.size))) (w.alloc (.map #[] 0)):=by
 unfold execOp
 simp only[ho,hx,Option.map_some]
 simp[run_mm]
theorem rdw {ops:Array Oper} {rest:List Oper} {Q:Exit->Act->World->Prop} {w X:World} {a:Act} {o:Oper} {v:Value} (hw:Region.wanted o (yielded ops a.tmps)=true) (hy:(execOp a.eval o).run prog w= .ok (.value v) X) (h:wpList prog ops Q rest (a.put o.dst v) X):wpList prog ops Q (o::rest) a w:=by
 refine BigFrame.wpList_want hw fun K hK=> ?_
 have hP:=hK _ _ h
 unfold Oper.wp
 rw[hy]
 exact hP
def fnd (l:List RR) (k:KK):Option Nat:=(l.find? (fun r=>decide (r.k=k))).map (·.b)
theorem fnd_take {l:List RR} (hp:l.Pairwise (fun a b=>a.k≠b.k)) {j:Nat} (hj:j<l.length):fnd (l.take j) l[j].k=none/\Oc (fnd (l.take j)) l[j].k (some l[j].b)=fnd (l.take (j+1)):=by
 have hno: ∀r∈l.take j,r.k≠l[j].k:=by
  intro r hr
  obtain⟨i,hi,rfl⟩:=List.mem_take_iff_getElem.1 hr
  exact List.pairwise_iff_getElem.1 hp i j (by omega) hj (by omega)
 have h0:(l.take j).find? (fun r=>decide (r.k=l[j].k))=none:=by
  rw[List.find?_eq_none]
  intro r hr
  simpa using hno r hr
 refine⟨by unfold fnd;rw[h0];rfl, ?_⟩
 funext q
 unfold fnd
 rw[List.take_succ_eq_append_getElem hj,List.find?_append]
 by_cases e:q=l[j].k
 ·subst e
  rw[h0,Lz]
  simp
 ·rw[Kx e]
  have e2:([l[j]]:List RR).find? (fun r=>decide (r.k=q))=none:=by
   simp
   exact fun h=>e h.symm
  rw[e2]
  simp
structure CPk (T:TT) (w1 wr:World) (A:Option Addr) (n c M j:Nat):Prop where
 tab:Holds wr T.t [.map (some M), .slice A n c, .int .u64 T.last]
 map:MapIs wr M j j (fnd (T.live.take j))
 fr:Fr w1 wr [T.t]
theorem Zee (T:TT) (w:World) (hT:T.Is w) (hl:T.last<100000):Calls prog 177 #[.pointer (some ⟨T.t,0,none⟩)] w fun e w'=>e= .returned (.tuple #[])/\ ∃m rv,(T.packed m rv).Is w'/\Fr w w' [T.t]/\(∀b∈(T.packed m rv).blocks,b∈T.blocks∨w.heap.size<=b):=by
 have C39:=Ab (ZbU T w hT hl)
 have HT:=Ab hT
 have hlen:=hT.len
 have hlv:=T.live_le
 obtain⟨n,hn⟩: ∃n,n=T.live.length:=⟨_,rfl⟩
 have hn1:n<=100000:=by omega
 have hnl:Hid (n<=T.last):=Ab (by omega)
 have Hn:=Ab hn
 clear hT hlen hlv hl hn
 go_enter func177,ntmps177
 go_wp2_with fail
 refine(Aa C39).mono ?_
 clear C39
 rintro _ w1 ⟨rfl,rv,hT1,hf1,hb1⟩
 obtain⟨A,c,hrv⟩:=Jf hT1.own
 replace hrv:rv= .slice A n c:=by
  rw[Aa Hn]
  simpa [TT.packed] using hrv
 subst hrv
 have HV:Hid (Holds w1 T.t [.map (some T.m), .slice A n c, .int .u64 T.last]):=Ab hT1.tab
 have HT1:=Ab hT1
 have HF1:=Ab hf1
 have HB1:=Ab hb1
 have HAP:=Ab (TT.apart hT1.nd)
 have htl:Hid (T.t<w1.heap.size):=Ab (hT1.lt T.t (by simp[TT.blocks,TT.packed]))
 clear hT1 hf1 hb1
 go_wp2_with (first|go_skip|((with_reducible show wpList ..);first|(refine rd rfl (Ag 163 isAgg163 rfl rfl (Aa HV) rfl) ?_)|((refine rdw (by rfl) (ex_mm rfl rfl) ?_);obtain⟨M,hM⟩: ∃M,M=w1.heap.size:=⟨_,rfl⟩;obtain⟨w2,hw2⟩: ∃w2,w2=w1.alloc (.map #[] 0):=⟨_,rfl⟩;have HM:=Ab hM;have hb2:Below w1.heap.size w1 w2:=(by rw[hw2];exact(Below.refl _ _).alloc (Nat.le_refl _) _);have HMP:Hid (MapIs w2 M 0 0 (fnd (T.live.take 0))):=Ab (by rw[hw2,hM];exact MapIs.made w1);rw[←hw2,←hM];replace HV:=Ab ((Aa HV).block (hb2.block T.t (Aa htl)));have HB2:=Ab hb2;clear hw2 hM hb2;simp only[nn])|((with_reducible apply stx (t:=162) (b:=T.t) (p:=0) (cs:= [.map (some T.m), .slice A n c, .int .u64 T.last]) (vs:= [.map (some M)]) (v:= .map (some M)));(case hw|ho|hx|hy=>rfl);(case hv=>exact rfl);(case h1=>exact(by simp[Value.oneCell']));(case hi=>exact siz69);(case hH=>exact Aa HV);(case hp=>exact(by simp));(obtain⟨w3,hw3⟩: ∃w3,w3=w2.setCells T.t 0 [.map (some M)]:=⟨_,rfl⟩);(have HC:Hid (CPk T w1 w3 A n c M 0):=Ab ⟨(by rw[hw3];exact(Aa HV).put 0 [.map (some M)] (by simp)),(by rw[hw3];exact(Aa HMP).block (Ev _ _ _ _ _ (by have h1:=Aa HM;have h2:=Aa htl;omega))),(by rw[hw3];exact(Fr.of_below (Aa HB2) [T.t]).trans (Fr.setCells _ _ _ _) (fun b hb=> .inl hb))⟩);rw[←hw3];replace HV:=Ab (Aa HC).tab;clear hw3;simp only[nn])))
 clear HV HMP HB2
 go_loopg [3,20] n (fun gm s3 s20 wr=> ∃j:Nat,s20= .int .i64 j/\j<=n/\n - j<=gm/\Hid (CPk T w1 wr A n c M j))
 case atStart=>exact⟨0,rfl,by omega,by omega,HC⟩
 case round=>
  obtain⟨j,rfl,hj,hg,HR⟩:=hrel
  by_cases hjl:j<n
  ·have hjz:(j:Int)<n:=by omega
   have hjr:j<T.live.length:=by have:=Aa Hn;omega
   have hown:w1.ownsRow 0 195 1 (.slice A (T.live.map (·.b)).length c) (T.live.map (·.b)).length (My (T.live.map (·.b))):=by
    have h1:=(Aa HT1).own
    have e:=Aa Hn
    unfold OwnP TT.packed at h1
    simp only at h1
    rw[List.length_map,←e] at h1 ⊢
    exact h1
   obtain⟨g,rfl, -,hgl⟩:=Zbg hown (by simp;omega)
   have hgt:g≠T.t:=((Aa HAP).tv g rfl).1
   have HG:Hid (Holds wr g (My (T.live.map (·.b)))):=Ab ((Zt hown).block ((Aa HR).fr.block g hgl (by simpa using hgt)))
   obtain⟨r,hr⟩: ∃r,r=T.live[j]:=⟨_,rfl⟩
   have hrm:r∈T.live:=hr▸List.getElem_mem hjr
   have HP:Hid ((My (T.live.map (·.b)))[0+j]? =some (.pointer (some ⟨r.b,0,none⟩))):=Ab (by rw[hr];exact Zbf T.live j hjr)
   have hrt:r.b≠T.t:=fun e=>(Aa HAP).tr (e▸List.mem_map.2 ⟨r,hrm,rfl⟩)
   have hrl:=((Aa HT1).rows r hrm).lt (by simp[Dz])
   have HRr:Hid (Holds wr r.b r.cs):=Ab (((Aa HT1).rows r hrm).block ((Aa HR).fr.block r.b hrl (by simpa using hrt)))
   have HOK:=Ab (good_ok ((Aa HT).good r hrm))
   have HFN:=Ab (fnd_take (Aa HT).keys hjr)
   rw[←hr] at HFN
   have HMr:Hid (T.t≠M/\r.b≠M):=Ab ⟨by have h1:=Aa HM;have h2:=Aa htl;omega,by have h1:=Aa HM;omega⟩
   have hjM:Hid (j<maxLen):=Ab (by unfold maxLen;omega)
   clear hr hrm hrt hrl hown hgt hgl
   go_wp2_with (first|go_skip|((with_reducible show wpList ..);first|(refine rd rfl (Pa (off:=0) j rfl rfl rfl hjl) ?_)|(refine rd rfl (Ag 195 isAgg195 rfl rfl (Aa HG) (Aa HP)) ?_)))
   refine wp_region_held_drew (P:=prog) (S:=fun X=>Holds X T.t [.map (some M), .slice (some ⟨g,0,none⟩) n c, .int .u64 T.last]/\Holds X r.b r.cs) (by kernel_rfl) ⟨(Aa HR).tab.block rfl,(Aa HRr).block rfl⟩ (fun hS0=> ?_)
   refine y0 0 (some 24) (.pointer (some ⟨T.t,0,none⟩)) rfl hS0 ?_
   refine y0 1 (some 25) (.pointer (some ⟨T.t,0,none⟩)) rfl hS0 ?_
   refine y0 2 (some 26) (.pointer (some ⟨T.t,0,none⟩)) rfl hS0 ?_
   refine y1 3 (some 27) (.map (some M)) rfl (fun X hX=>Ag 162 isAgg162 rfl rfl (hX.1) rfl) hS0 ?_
   refine y0 4 (some 28) (.pointer (some ⟨r.b,0,none⟩)) rfl hS0 ?_
   refine y0 5 (some 29) (.pointer (some ⟨r.b,0,none⟩)) rfl hS0 ?_
   refine y0 6 (some 30) (.pointer (some ⟨r.b,0,none⟩)) rfl hS0 ?_
   refine y0 7 (some 31) (.pointer (some ⟨r.b,0,none⟩)) rfl hS0 ?_
   refine y1 8 (some 32) (r.k.agg) rfl (fun X hX=>Am (vs:=r.k.cs) 45 2 Gm Jr rfl rfl (hX.2) rfl rfl) hS0 ?_
   refine y0 9 (some 33) (.pointer (some ⟨r.b,0,none⟩)) rfl hS0 ?_
   refine wpAnyH_ready (rs:= [10]) (by kernel_rfl) (by simp) (gupd (r:=r.b) 10 rfl (by kernel_rfl) (by kernel_rfl) rfl rfl rfl rfl ((Aa HR).map.block rfl) (Aa HOK) (Aa hjM) (fun X hX=>⟨hS0.1.block (hX.block T.t (hS0.1.lt (by simp)) (by simpa using (Aa HMr).1)),hS0.2.block (hX.block r.b (hS0.2.lt (by simp[Dz])) (by simpa using (Aa HMr).2))⟩) ?_ AllReadyH.nil)
   intro X hM6 hX6
   have HR6:Hid (CPk T w1 X (some ⟨g,0,none⟩) n c M (j+1)):=Ab ⟨hS0.1.block (hX6.block T.t (hS0.1.lt (by simp)) (by simpa using (Aa HMr).1)),(by have h1:=hM6;rw[(Aa HFN).1,(Aa HFN).2] at h1;exact h1),((Aa HR).fr.drew.trans hX6 (fun b hb=>Or.inr (by have h1:=Aa HM;obtain rfl:b=M:=(by simpa using hb);omega)))⟩
   replace hS0:=And.intro (hS0.1.block (hX6.block T.t (hS0.1.lt (by simp)) (by simpa using (Aa HMr).1))) (hS0.2.block (hX6.block r.b (hS0.2.lt (by simp[Dz])) (by simpa using (Aa HMr).2)))
   clear hM6 hX6
   simp only[nn]
   refine dn ?_
   try simp only[nn]
   clear hS0
   go_wp2
   go_roundg (n - (j+1))
   case measure=>omega
   case rel=>exact⟨j+1,by go_num,by omega,Nat.le_refl _,HR6⟩
  ·have hjz: ¬(j:Int)<n:=by omega
   have hjn:j=n:=by omega
   subst hjn
   go_wp2
   go_end0
   have hC:=Aa HR
   have hTT:=Aa HT1
   have hap:=Aa HAP
   have e:=Aa Hn
   have htk:T.live.take j=T.live:=by rw[e,List.take_length]
   have hmp:=hC.map
   rw[htk] at hmp
   have hM:=Aa HM
   have hs1:=(Aa HF1).size
   have hlt:=(Aa HT).lt
   have hrv: ∀b,(Value.slice A j c).ownBlock=some b->(T.rv.ownBlock=some b∨b ∉ T.blocks)/\b≠M:=fun b hb=>by
    refine⟨((Aa HB1) b hb).imp id (fun h1 hm=>by have:=hlt b hm;omega), ?_⟩
    have:=World.ownsRow.lt hTT.own b hb
    omega
   refine⟨rfl,M, .slice A j c,TT.Is.pack (Aa HT) hC.tab ?_ ?_ (fun r hr=> ?_) (.inr (fun hm=>by have:=hlt M hm;omega)) hrv, ?_, ?_⟩
   ·have h1:=hmp.mono (Aa hnl)
    rw[←e]
    exact h1
   ·exact hTT.own.block (fun b hb=>hC.fr.block b (World.ownsRow.lt hTT.own b hb).2 (fun hm=>(hap.tv b hb).1 (by show b=T.t;simpa using hm)))
   ·have h2:=hTT.rows r hr
    exact h2.block (hC.fr.block r.b (h2.lt (by simp[Dz])) (by simpa using fun e:r.b=T.t=>hap.tr (e▸List.mem_map.2 ⟨r,hr,rfl⟩)))
   ·exact(Aa HF1).trans hC.fr (fun b hb=> .inl hb)
   ·intro b hb
    simp only[TT.blocks,TT.packed,List.mem_cons,List.mem_append] at hb ⊢
    rcases hb with h1|h1|h1|h1
    ·exact .inl (.inl h1)
    ·exact .inr (by omega)
    ·rcases (Aa HB1) b (by simpa using h1) with h2|h2
     ·exact .inl (.inr (.inr (.inl (by rw[h2];simp))))
     ·exact .inr h2
    ·exact .inl (.inr (.inr (.inr (Mc T b h1))))
def Qf (b:Nat) (q:RR):RR:=if q.b=b then Xt q else q
theorem Qe (b:Nat) (q:RR):(Qf b q).b=q.b/\(Qf b q).n=q.n:=by
 unfold Qf Xt
 split<;>exact⟨rfl,rfl⟩
def TT.left (T:TT) (b:Nat):TT:={T with rows:=T.rows.map (Qf b)}
theorem TT.left_live (T:TT) (b:Nat):(T.left b).live=T.live.filter (fun q=>decide (q.b≠b)):=by
 unfold TT.left TT.live
 simp only
 induction T.rows with
 |nil=>rfl
 |cons q l ih=>
  simp only[List.map_cons,List.filter_cons]
  by_cases h:q.b=b
  ·rw[show Qf b q=Xt q from if_pos h]
   cases hg:q.gone
   ·rw[if_neg (by simp[Xt]),if_pos (by simp),List.filter_cons,if_neg (by simp[h])]
    exact ih
   ·rw[if_neg (by simp[Xt]),if_neg (by simp)]
    exact ih
  ·rw[show Qf b q=q from if_neg h]
   cases hg:q.gone
   ·rw[if_pos (by simp),if_pos (by simp),List.filter_cons,if_pos (by simp[h]),ih]
   ·rw[if_neg (by simp),if_neg (by simp)]
    exact ih
theorem Yd {α:Type} {p q:α->Bool}: ∀{l:List α},(∀x∈l,p x=q x)->l.find? p=l.find? q
 | [],_=>rfl
 |x::l,h=>by
  rw[List.find?_cons,List.find?_cons,h x (by simp),Yd (fun y hy=>h y (by simp[hy]))]
theorem Zo {T:TT} (h:TApart T):T.rows.Pairwise (fun a b=>a.b≠b.b):=by
 have:=h.rr
 unfold List.Nodup at this
 rwa [List.pairwise_map] at this
theorem Nb {T:TT} {r:RR} (h:r∈T.live):r∈T.rows:=(List.mem_filter.1 h).1
theorem Zaj {T:TT} {w:World} (hT:T.Is w) {r q:RR} (hr:r∈T.live) (hq:q∈T.live):q.b=r.b↔q.k=r.k:=by
 constructor
 ·intro e
  rw[Vq (f:=RR.b) (Zo (TT.apart hT.nd)) (Nb hq) (Nb hr) e]
 ·intro e
  rw[Vq (f:=RR.k) hT.keys hq hr e]
theorem TT.left_live' {T:TT} {w:World} (hT:T.Is w) {r:RR} (hr:r∈T.live):(T.left r.b).live=T.live.filter (fun q=>decide (q.k≠r.k)):=by
 rw[TT.left_live]
 apply List.filter_congr
 intro q hq
 have:=Zaj hT hr hq
 simp[this]
theorem TT.left_find {T:TT} {w:World} (hT:T.Is w) {r:RR} (hr:r∈T.live):(fun q=>((T.left r.b).find q).map (·.b))=Oc (fun q=>(T.find q).map (·.b)) r.k none:=by
 funext q
 unfold TT.find
 rw[TT.left_live' hT hr,List.find?_filter]
 by_cases e:q=r.k
 ·subst e
  rw[Lz]
  have:T.live.find? (fun a=>decide (decide (a.k≠r.k)=true/\decide (a.k=r.k)=true))=none:=by
   rw[List.find?_eq_none]
   intro x _
   simp
  rw[this]
  rfl
 ·rw[Kx e]
  congr 1
  apply Yd
  intro x _
  by_cases e2:x.k=q
  ·have:x.k≠r.k:=fun e3=>e (e2▸e3)
   simp[e2]
   exact fun e3=>e e3
  ·simp[e2]
theorem TT.left_len {T:TT} {w:World} (hT:T.Is w) {r:RR} (hr:r∈T.live):(T.left r.b).live.length=T.live.length - 1:=by
 rw[TT.left_live' hT hr]
 obtain⟨a,b,e⟩:=List.append_of_mem hr
 have hp:=hT.keys
 rw[e] at hp ⊢
 have h1:=List.pairwise_append.1 hp
 have h2:=List.pairwise_cons.1 h1.2.1
 have ha:a.filter (fun q=>decide (q.k≠r.k))=a:=by
  rw[List.filter_eq_self]
  intro x hx
  simpa using h1.2.2 x hx r (by simp)
 have hb:b.filter (fun q=>decide (q.k≠r.k))=b:=by
  rw[List.filter_eq_self]
  intro x hx
  simpa using (h2.1 x hx).symm
 rw[List.filter_append,List.filter_cons,ha,hb]
 simp
theorem TT.Is.left {T:TT} {w X:World} {r:RR} (hT:T.Is w) (hr:r∈T.live) (htab:Holds X T.t T.cs) (hmap:MapIs X T.m T.last (T.live.length - 1) (Oc (fun k=>(T.find k).map (·.b)) r.k none)) (hown:OwnP X T.rv (T.rows.map (·.b))) (hrest: ∀q∈T.rows,q.b≠r.b->Holds X q.b q.cs) (hg:Holds X r.b (Xt r).cs):(T.left r.b).Is X:=by
 have hbs:(T.left r.b).rows.map (·.b)=T.rows.map (·.b):=by
  unfold TT.left
  simp only[List.map_map]
  apply List.map_congr_left
  intro q _
  exact(Qe r.b q).1
 have hsub: ∀q∈(T.left r.b).live,q∈T.live:=fun q hq=>by
  rw[TT.left_live] at hq
  exact(List.mem_filter.1 hq).1
 refine⟨htab, ?_, ?_, ?_, ?_, ?_, ?_, ?_,fun q hq=>hT.good q (hsub q hq)⟩
 ·rw[TT.left_find hT hr,TT.left_len hT hr]
  exact hmap
 ·rw[hbs]
  exact hown
 ·intro q hq
  obtain⟨p,hp,rfl⟩:=List.mem_map.1 hq
  by_cases e:p.b=r.b
  ·have:=Vq (f:=RR.b) (Zo (TT.apart hT.nd)) hp (Nb hr) e
   subst this
   unfold Qf
   rw[if_pos rfl]
   exact hg
  ·unfold Qf
   rw[if_neg e]
   exact hrest p hp e
 ·have h:=hT.nd
  unfold TT.blocks at h ⊢
  rw[hbs]
  exact h
 ·show (T.rows.map (Qf r.b)).Pairwise _
  rw[List.pairwise_map]
  refine hT.rise.imp ?_
  intro a b h
  rw[(Qe r.b a).2,(Qe r.b b).2]
  exact h
 ·intro q hq
  obtain⟨p,hp,rfl⟩:=List.mem_map.1 hq
  rw[(Qe r.b p).2]
  exact hT.num p hp
 ·rw[TT.left_live]
  exact hT.keys.sublist List.filter_sublist
theorem TT.left_blocks (T:TT) (b:Nat):(T.left b).blocks=T.blocks:=by
 unfold TT.blocks TT.left
 simp only[List.map_map]
 congr 3
 apply List.map_congr_left
 intro q _
 exact(Qe b q).1
theorem gdel {md:Region.Mode} {ops:Array Oper} {Q:Exit->Act->World->Prop} {S:World->Prop} {w:World} {fuel:Nat} {listed:Array Bool} {a:Act} {o:Oper} (i:Nat) {m x:Operand} {b n sz:Nat} {F:KK->Option Nat} {k:KK} {rs:List Nat} (hi:ops[i]? =some o) (hd:o.dst=none) (hw:Region.wanted o (yielded ops a.tmps)=true)
  (ho:o.op= .call {callee:= .builtin .delete,args:= #[m,x],argTypes:= #[162,45]}) (hm:a.eval m= .map (some b)) (hx:a.eval x=k.agg) (h:MapIs w b n sz F) (hk:OkK k) (hon: ∀X,Fr w X [b]->S X)
  (hh: ∀X,MapIs X b n (if (F k).isSome then sz - 1 else sz) (Oc F k none)->Fr w X [b]->wpAnyH prog md ops Q S fuel (listed.setIfInBounds i true) (a.put none (.tuple #[])) X) (hs:AllReadyH prog md ops Q S fuel listed a w rs):AllReadyH prog md ops Q S fuel listed a w (i::rs):=by
 obtain⟨X,h1,h2,h3⟩:=h.drop hk o.type
 refine Zd i none hi hd hw (V:= .tuple #[]) (X:=X) ?_ (hon X (Fr.grown h3.grown)) (hh X h2 (Fr.grown h3.grown)) hs
 simp[execOp,ho,resolve,invoke,builtin,hm,hx,h1,Result.andThen]
theorem Yl (T:TT) (k:KK) (w:World) (hT:T.Is w) (hk:OkK k) (hl:T.last<100000):Calls prog 166 #[.pointer (some ⟨T.t,0,none⟩),k.agg] w fun e w'=>e= .returned (.bool (T.find k).isSome)/\ ∃T':TT,T'.Is w'/\T'.t=T.t/\T'.last=T.last/\Fr w w' T.blocks/\(∀b∈T'.blocks,b∈T.blocks∨w.heap.size<=b)/\T'.live=T.live.filter (fun q=>decide (q.k≠k)):=by
 cases hf:T.find k with
 |none=>
  have hlv:T.live.filter (fun q=>decide (q.k≠k))=T.live:=by
   rw[List.filter_eq_self]
   intro q hq
   simpa using TT.find_none hf q hq
  rw[hlv]
  clear hlv
  have HT:=Ab (hT.on ((Below.refl _ _).alloc (Nat.le_refl _) (Obj.cells k.cs.toArray 45)))
  have LL:=Ab ((Hq.nil w T.blocks).new k.cs 45 (Nat.succ_pos _))
  have HL:=Ab hT.lt
  clear hT
  rw[show k.agg= .agg k.cs.toArray from rfl]
  go_enter func166,ntmps166
  go_wp2
  refine wp_region_held_drew (P:=prog) (S:=fun X=>T.Is X/\Hq w X T.blocks [(w.heap.size,k.cs)]) (by kernel_rfl) ⟨(Aa HT).drew,(Aa LL).drew⟩ (fun hS0=> ?_)
  refine y0 0 (some 8) (.pointer (some ⟨T.t,0,none⟩)) rfl hS0 ?_
  refine y0 1 (some 9) (.pointer (some ⟨T.t,0,none⟩)) rfl hS0 ?_
  refine y0 2 (some 10) (.pointer (some ⟨T.t,0,none⟩)) rfl hS0 ?_
  refine y1 3 (some 11) (.map (some T.m)) rfl (fun X hX=>Ag 162 isAgg162 rfl rfl (hX.1.tab) rfl) hS0 ?_
  refine y1 4 (some 12) (k.agg) rfl (fun X hX=>Am (vs:=k.cs) 45 2 Gm Jr rfl rfl (hX.2.get 0 rfl) rfl rfl) hS0 ?_
  refine y1 5 (some 13) (.tuple #[pv (none), .bool false]) rfl (fun X hX=>Mm (r:=none) rfl rfl rfl hX.1.map hk (by rw[hf];rfl)) hS0 ?_
  refine y0 6 (some 7) (.tuple #[pv (none), .bool false]) rfl hS0 ?_
  refine y0 7 (some 14) (pv (none)) rfl hS0 ?_
  refine y0 9 (some 5) (pv (none)) rfl hS0 ?_
  refine y0 8 (some 15) (.bool false) rfl hS0 ?_
  refine y0 10 (some 6) (.bool false) rfl hS0 ?_
  refine dn ?_
  try simp only[nn]
  replace HT:=Ab hS0.1
  replace LL:=Ab hS0.2
  clear hS0
  go_wp2
  go_ret
  exact⟨rfl,T,Aa HT,rfl,rfl,(Aa LL).fr,fun b hb=> .inl hb,rfl⟩
 |some r=>
  have hrl:r∈T.live:=List.mem_of_find?_eq_some hf
  obtain⟨-,hgn,hrk⟩:=TT.find_mem hf
  have HRL:=Ab (And.intro hrl hrk)
  have H2:Hid (∀X,(T.left r.b).Is X->Calls prog 175 #[.pointer (some ⟨T.t,0,none⟩)] X fun e w'=>e= .returned (.int .i64 (((T.left r.b).rows.length - (T.left r.b).live.length:Nat):Int))/\Below X.heap.size X w'):=Ab (fun X hX=>gaps38 (T.left r.b) X hX (by have:=hX.len;have e:(T.left r.b).last=T.last:=rfl;omega))
  have H3:Hid (∀X,(T.left r.b).Is X->Calls prog 176 #[.pointer (some ⟨T.t,0,none⟩)] X fun e w'=>e= .returned (.int .i64 (T.left r.b).live.length)/\w'=X):=Ab (fun X hX=>len30 (T.left r.b) X hX)
  have H4:Hid (∀X,(T.left r.b).Is X->Calls prog 177 #[.pointer (some ⟨T.t,0,none⟩)] X fun e w'=>e= .returned (.tuple #[])/\ ∃m rv,((T.left r.b).packed m rv).Is w'/\Fr X w' [T.t]/\(∀b∈((T.left r.b).packed m rv).blocks,b∈(T.left r.b).blocks∨X.heap.size<=b)):=Ab (fun X hX=>Zee (T.left r.b) X hX hl)
  have HLV:Hid ((T.left r.b).live=T.live.filter (fun q=>decide (q.k≠k))):=Ab (by rw[TT.left_live' hT hrl,hrk])
  have HAP:=Ab (TT.apart hT.nd)
  have hk2:=Ab hk
  have hf2:=Ab hf
  clear hrl hrk hgn hl
  have HT:=Ab (hT.on ((Below.refl _ _).alloc (Nat.le_refl _) (Obj.cells k.cs.toArray 45)))
  have LL:=Ab ((Hq.nil w T.blocks).new k.cs 45 (Nat.succ_pos _))
  have HL:=Ab hT.lt
  clear hT
  rw[show k.agg= .agg k.cs.toArray from rfl]
  go_enter func166,ntmps166
  go_wp2
  refine wp_region_held_drew (P:=prog) (S:=fun X=>T.Is X/\Hq w X T.blocks [(w.heap.size,k.cs)]) (by kernel_rfl) ⟨(Aa HT).drew,(Aa LL).drew⟩ (fun hS0=> ?_)
  refine y0 0 (some 8) (.pointer (some ⟨T.t,0,none⟩)) rfl hS0 ?_
  refine y0 1 (some 9) (.pointer (some ⟨T.t,0,none⟩)) rfl hS0 ?_
  refine y0 2 (some 10) (.pointer (some ⟨T.t,0,none⟩)) rfl hS0 ?_
  refine y1 3 (some 11) (.map (some T.m)) rfl (fun X hX=>Ag 162 isAgg162 rfl rfl (hX.1.tab) rfl) hS0 ?_
  refine y1 4 (some 12) (k.agg) rfl (fun X hX=>Am (vs:=k.cs) 45 2 Gm Jr rfl rfl (hX.2.get 0 rfl) rfl rfl) hS0 ?_
  refine y1 5 (some 13) (.tuple #[pv (some r.b), .bool true]) rfl (fun X hX=>Mm (r:=some r.b) rfl rfl rfl hX.1.map hk (by rw[hf];rfl)) hS0 ?_
  refine y0 6 (some 7) (.tuple #[pv (some r.b), .bool true]) rfl hS0 ?_
  refine y0 7 (some 14) (pv (some r.b)) rfl hS0 ?_
  refine y0 9 (some 5) (pv (some r.b)) rfl hS0 ?_
  refine y0 8 (some 15) (.bool true) rfl hS0 ?_
  refine y0 10 (some 6) (.bool true) rfl hS0 ?_
  refine dn ?_
  try simp only[nn]
  replace HT:=Ab hS0.1
  replace LL:=Ab hS0.2
  clear hS0
  unfold pv
  go_wp2
  refine wp_region_held_drew (P:=prog) (S:=fun X=>Holds X T.t T.cs/\Hq w X T.blocks [(w.heap.size,k.cs)]) (by kernel_rfl) ⟨(Aa HT).tab.block rfl,(Aa LL).drew⟩ (fun hS0=> ?_)
  refine y0 0 (some 18) (.pointer (some ⟨T.t,0,none⟩)) rfl hS0 ?_
  refine y0 1 (some 19) (.pointer (some ⟨T.t,0,none⟩)) rfl hS0 ?_
  refine y0 2 (some 20) (.pointer (some ⟨T.t,0,none⟩)) rfl hS0 ?_
  refine y1 3 (some 21) (.map (some T.m)) rfl (fun X hX=>Ag 162 isAgg162 rfl rfl (hX.1) rfl) hS0 ?_
  refine y1 4 (some 22) (k.agg) rfl (fun X hX=>Am (vs:=k.cs) 45 2 Gm Jr rfl rfl (hX.2.get 0 rfl) rfl rfl) hS0 ?_
  have hmt:T.t ∉ [T.m]:=by simpa using (Aa HAP).tm
  have hkm:w.heap.size≠T.m:=by have:=(Aa HL) T.m (by simp[TT.blocks]);omega
  have hmb: ∀b∈ [T.m],b∈T.blocks∨w.heap.size<=b:=fun b hb=> .inl (by obtain rfl:b=T.m:=(by simpa using hb);simp[TT.blocks])
  refine wpAnyH_ready (rs:= [5]) (by kernel_rfl) (by simp) (gdel 5 rfl (by kernel_rfl) (by kernel_rfl) rfl rfl rfl (Aa HT).drew.map (Aa hk2) (fun X hX=>⟨hS0.1.block (hX.block T.t (hS0.1.lt (by simp[TT.cs])) hmt),hS0.2.step hX hmb (fun q hq=>by obtain rfl:q=(w.heap.size,k.cs):=(by simpa using hq);simpa using hkm)⟩) ?_ AllReadyH.nil)
  intro X hM hX
  have hTd:=(Aa HT).drew
  have hLX:=hS0.2.step hX hmb (fun q hq=>by obtain rfl:q=(w.heap.size,k.cs):=(by simpa using hq);simpa using hkm)
  have hm3:MapIs X T.m T.last (T.live.length - 1) (Oc (fun q=>(T.find q).map (·.b)) k none):=by
   have e:=Aa hf2
   have:=hM
   simp only[e,Option.map_some,Option.isSome_some,if_true] at this
   exact this
  have hap:=Aa HAP
  have hbl: ∀b,b≠T.m->b<w.heap.size->X.heap[b]? =(World.drew _).heap[b]? :=fun b hb hlt=>hX.block b (by have:=hS0.2.fr.size;omega) (by simpa using hb)
  have HOWN:Hid (OwnP X T.rv (T.rows.map (·.b))):=Ab (hTd.own.block (fun g hg=>hX.block g (World.ownsRow.lt hTd.own g hg).2 (fun hm=>(hap.tv g hg).2.1 (by simpa using hm))))
  have HROW:Hid (∀q∈T.rows,Holds X q.b q.cs):=Ab (fun q hq=>(hTd.rows q hq).block (hX.block q.b ((hTd.rows q hq).lt (by simp[Dz])) (fun hm=>hap.mr (by obtain h1:q.b=T.m:=(by simpa using hm);exact h1▸List.mem_map.2 ⟨q,hq,rfl⟩))))
  have HTAB:Hid (Holds X T.t T.cs):=Ab (hS0.1.block (hX.block T.t (hS0.1.lt (by simp[TT.cs])) hmt))
  have HM3:=Ab hm3
  have hS1:Holds X T.t T.cs/\Hq w X T.blocks [(w.heap.size,k.cs)]:=⟨Aa HTAB,hLX⟩
  replace LL:=Ab hLX
  clear hS0 hM hX hTd hLX hm3 hbl hmt hkm hmb
  simp only[nn]
  refine dn ?_
  try simp only[nn]
  clear hS1
  go_wp2_with fail
  refine(leave37 r X ((Aa HROW) r (Nb (Aa HRL).1))).mono ?_
  rintro _ w3 ⟨rfl,hg3,hf3⟩
  have hrm:r.b∈T.rows.map (·.b):=List.mem_map.2 ⟨r,Nb (Aa HRL).1,rfl⟩
  have hT2:(T.left r.b).Is w3:=by
   have e:=(Aa HRL).2
   refine TT.Is.left (Aa HT) (Aa HRL).1 ((Aa HTAB).block (hf3.block T.t ((Aa HTAB).lt (by simp[TT.cs])) ?_)) ?_ ((Aa HOWN).block (fun g hg=>hf3.block g (World.ownsRow.lt (Aa HOWN) g hg).2 ?_)) (fun q hq hne=>((Aa HROW) q hq).block (hf3.block q.b (((Aa HROW) q hq).lt (by simp[Dz])) (by simpa using hne))) hg3
   ·intro hm
    exact hap.tr (by obtain h1:T.t=r.b:=(by simpa using hm);exact h1▸hrm)
   ·rw[e]
    exact(Aa HM3).block (hf3.block T.m (Aa HM3).lt (fun hm=>hap.mr (by obtain h1:T.m=r.b:=(by simpa using hm);exact h1▸hrm)))
   ·intro hm
    exact(hap.tv g hg).2.2 (by obtain h1:g=r.b:=(by simpa using hm);exact h1▸hrm)
  have HFR:Hid (Fr w w3 T.blocks):=Ab ((Aa LL).fr.trans hf3 (fun b hb=> .inl (by
   obtain rfl:b=r.b:=by simpa using hb
   unfold TT.blocks
   simp only[List.mem_cons,List.mem_append]
   exact .inr (.inr (.inr hrm)))))
  have HT2:=Ab hT2
  clear hT2 hg3 hf3 hrm hap HOWN HROW HTAB HM3 LL
  go_wp2_with fail
  refine((Aa H2) w3 (Aa HT2)).mono ?_
  rintro _ w4 ⟨rfl,hb⟩
  replace HFR:=Ab ((Aa HFR).on hb)
  replace HT2:=Ab ((Aa HT2).on hb)
  clear hb
  go_wp2_with fail
  refine((Aa H3) w4 (Aa HT2)).mono ?_
  rintro _ x4 ⟨rfl,e4⟩
  rw[e4]
  clear e4 x4
  obtain⟨g1,hg1⟩: ∃g1,g1=(T.left r.b).rows.length - (T.left r.b).live.length:=⟨_,rfl⟩
  obtain⟨g2,hg2⟩: ∃g2,g2=(T.left r.b).live.length:=⟨_,rfl⟩
  rw[←hg1,←hg2]
  clear hg1 hg2
  by_cases hgt:g2<g1
  ·have hgz:(g2:Int)<g1:=by omega
   go_wp2_with fail
   refine((Aa H4) w4 (Aa HT2)).mono ?_
   rintro _ w5 ⟨rfl,m,rv,hT5,hf5,hb5⟩
   have HF5:=Ab hf5
   have HT5:=Ab hT5
   have HB5:=Ab hb5
   clear hf5 hT5 hb5
   go_wp2
   go_ret
   refine⟨rfl,_,Aa HT5,rfl,rfl,(Aa HFR).trans (Aa HF5) (fun b hb=> .inl (by obtain rfl:b=T.t:=(by simpa using hb);simp[TT.blocks])),fun b hb=> ?_, ?_⟩
   ·rcases (Aa HB5) b hb with h1|h1
    ·rw[TT.left_blocks] at h1
     exact .inl h1
    ·exact .inr (Nat.le_trans (Aa HFR).size h1)
   ·rw[TT.packed_live]
    exact Aa HLV
  ·have hgz: ¬(g2:Int)<g1:=by omega
   go_wp2
   go_ret
   refine⟨rfl,_,Aa HT2,rfl,rfl,Aa HFR,fun b hb=> ?_,Aa HLV⟩
   rw[TT.left_blocks] at hb
   exact .inl hb
