import Derived.Test.YtlpdllcedgnaaaaGreatDoorRc
import Derived.RangeFuncKeeps
import Derived.BigFrameIn
set_option linter.all false
namespace Go.Proofs.YtlpdllcedgnaaaaGreatDoor
set_option maxRecDepth 100000
set_option maxHeartbeats 0
section
open Go Go.Proofs Go.Maps Go.RowKit Tryz
theorem Ps (m:Nat) (r:RR): ∀(l:List RR),l.Pairwise (fun a b=>a.n<b.n)->l.find? (Eh m)=some r->l.filter (Eh m)=r::l.filter (Eh r.n)
 | [],_,h=>by cases h
 |q::t,hp,h=>by
  obtain⟨h1,h2⟩:=List.pairwise_cons.1 hp
  by_cases hq:Eh m q=true
  ·rw[List.find?_cons_of_pos hq] at h
   obtain rfl:=Option.some.inj h
   have e0:Eh q.n q=false:=by simp[Eh]
   rw[List.filter_cons_of_pos hq,List.filter_cons_of_neg (by simp[e0])]
   congr 1
   apply List.filter_congr
   intro x hx
   have h3:=h1 x hx
   have h4:m<q.n:=by
    unfold Eh at hq
    simp at hq
    exact hq.1
   simp only[Eh]
   rw[decide_eq_true (by omega:m<x.n),decide_eq_true h3]
  ·rw[List.find?_cons_of_neg hq] at h
   have hr:r∈t:=List.mem_of_find?_eq_some h
   have h3:=h1 r hr
   rw[List.filter_cons_of_neg hq,Ps m r t h2 h,List.filter_cons_of_neg (by simp[Eh];omega)]
theorem ZaS (m:Nat) (l:List RR) (h:l.find? (Eh m)=none):l.filter (Eh m)= []:=by
 rw[List.filter_eq_nil_iff]
 exact List.find?_eq_none.1 h
theorem Zds {T:TT} {W:World} (hT:T.Is W):T.rows.filter (Eh 0)=T.live:=by
 unfold TT.live
 apply List.filter_congr
 intro r hr
 have:=(hT.num r hr).1
 simp only[Eh]
 rw[decide_eq_true (by omega:0<r.n)]
 simp
theorem ZaD {T:TT} {m:Nat} {r:RR} (h:T.next m=some r):r∈T.rows/\m<r.n/\r.gone=false:=by
 have h1:=List.mem_of_find?_eq_some h
 have h2:=List.find?_some h
 simp[Eh] at h2
 exact⟨h1,h2⟩
def RR.pr (r:RR):KK×DD:=(r.k,r.d)
def encP (x:KK×DD):Array Value:= #[x.1.agg,x.2.agg]
def left (T:TT):Value->Nat
 | .pointer (some a)=>(match T.rows.find? (fun r=>r.b==a.block) with
  |some r=>(T.rows.filter (Eh r.n)).length+1
  |none=>0)
 |_=>0
theorem each41 (T:TT) (w:World):Calls prog 180 #[.pointer (some ⟨T.t,0,none⟩)] w fun e w'=>e= .returned (.func (.func 183) #[] #[.pointer (some ⟨w.heap.size,0,none⟩)])/\w'=w.alloc (Obj.cells #[.pointer (some ⟨T.t,0,none⟩)] 119):=by
 go_enter func180,ntmps180
 go_wp2
 go_ret
 exact⟨rfl,rfl⟩
section -- laws in the fence
variable {n : Nat} {md : Region.Mode} {ops : Array Oper} {Q : Exit → Act → World → Prop} {w : World} {fuel : Nat} {listed : Array Bool} {a : Act} {o : Oper}
theorem ip (i:Nat) (dst:Option Tmp) (v:Value) (hi:ops[i]? =some o) (hs:Region.noSelect ops=true) (hf:Region.free md ops listed i=true) (hr:(Region.ready md ops listed).contains i=true)
  (hQ: ∀c a w,Q (.panic c) (a.put dst v) w->Q (.panic c) a w) (hd:o.dst=dst) (hw:Region.wanted o (yielded ops a.tmps)=true) (hy: ∀w,(execOp a.eval o).run prog w= .ok (.value v) w) (hab: ∀w,o.about prog w a.eval=none)
  (h:wpAnyIn Fence.wide n prog md ops Q fuel (listed.setIfInBounds i true) (a.put dst v) w):wpAnyIn Fence.wide n prog md ops Q (fuel+1) listed a w:=by
 subst hd
 exact wpAnyIn_take rfl hi hs hf hr hQ ⟨Or.inl ⟨hw,hy⟩,hab⟩ h
theorem isk (i:Nat) (dst:Option Tmp) (hi:ops[i]? =some o) (hs:Region.noSelect ops=true) (hf:Region.free md ops listed i=true) (hr:(Region.ready md ops listed).contains i=true)
  (hQ: ∀c a w,Q (.panic c) (a.put dst undef) w->Q (.panic c) a w) (hd:o.dst=dst) (hw:Region.wanted o (yielded ops a.tmps)=false) (hab: ∀w,o.about prog w a.eval=none)
  (h:wpAnyIn Fence.wide n prog md ops Q fuel (listed.setIfInBounds i true) (a.put dst undef) w):wpAnyIn Fence.wide n prog md ops Q (fuel+1) listed a w:=by
 subst hd
 exact wpAnyIn_take rfl hi hs hf hr hQ ⟨Or.inr ⟨hw,rfl⟩,hab⟩ h
theorem Qm (i:Nat) (dst:Option Tmp) {V:Value} {rs:List Nat} (hi:ops[i]? =some o) (hd:o.dst=dst) (hw:Region.wanted o (yielded ops a.tmps)=true) (he:(execOp a.eval o).run prog w= .ok (.value V) w)
  (h:wpAnyIn Fence.wide n prog md ops Q fuel (listed.setIfInBounds i true) (a.put dst V) w) (hs:AllReadyIn Fence.wide n prog md ops Q fuel listed a w rs):AllReadyIn Fence.wide n prog md ops Q fuel listed a w (i::rs):=by
 subst hd
 refine AllReadyIn.cons hi (fun K hK=> ?_) hs
 rw[if_pos hw]
 refine⟨fun _ _=>trivial, ?_⟩
 show o.uponIn Fence.wide n prog a K Q ((execOp a.eval o).run prog w)
 rw[he]
 exact hK _ _ h
theorem Zcw (i:Nat) (dst:Option Tmp) {f:FuncId} {args:Array Value} {R:Ending->World->Prop} {rs:List Nat} (hi:ops[i]? =some o) (hd:o.dst=dst) (hw:Region.wanted o (yielded ops a.tmps)=true) (he:(execOp a.eval o).run prog w= .ok (.enter f args) w)
  (hC:Calls prog f args w R) (h: ∀e X,R e X-> ∃V,e= .returned V/\wpAnyIn Fence.wide n prog md ops Q fuel (listed.setIfInBounds i true) (a.put dst V) X) (hs:AllReadyIn Fence.wide n prog md ops Q fuel listed a w rs):AllReadyIn Fence.wide n prog md ops Q fuel listed a w (i::rs):=by
 subst hd
 refine AllReadyIn.cons hi (fun K hK=> ?_) hs
 rw[if_pos hw]
 refine⟨fun _ _=>trivial, ?_⟩
 show o.uponIn Fence.wide n prog a K Q ((execOp a.eval o).run prog w)
 rw[he,Oper.uponIn_enter]
 refine⟨(fun h=>by cases h),(callsIn_wide.2 hC).mono ?_⟩
 intro e X hR
 obtain⟨V,rfl,hV⟩:=h e X hR
 exact hK _ _ hV
theorem iround (i:Nat) (dst:Option Tmp) {l:Nat} {f:FuncId} {tmps:Array Value} {asg bd:Code} {R:Ending->World->Prop} {rs:List Nat} (hi:ops[i]? =some o) (hd:o.dst=dst) (hw:Region.wanted o (yielded ops a.tmps)=true) (he:(execOp a.eval o).run prog w= .ok (.round l f tmps asg bd) w)
  (hC:RoundIn Fence.wide (n - 1) prog l f tmps asg bd w R) (h: ∀e X,R e X-> ∃V,e= .returned V/\wpAnyIn Fence.wide n prog md ops Q fuel (listed.setIfInBounds i true) (a.put dst V) X) (hs:AllReadyIn Fence.wide n prog md ops Q fuel listed a w rs):AllReadyIn Fence.wide n prog md ops Q fuel listed a w (i::rs):=by
 subst hd
 refine AllReadyIn.cons hi (fun K hK=> ?_) hs
 rw[if_pos hw]
 refine⟨fun _ _=>trivial, ?_⟩
 show o.uponIn Fence.wide n prog a K Q ((execOp a.eval o).run prog w)
 rw[he,Oper.uponIn_round]
 refine⟨(fun h=>by cases h),hC.mono ?_⟩
 intro e X hR
 obtain⟨V,rfl,hV⟩:=h e X hR
 exact hK _ _ hV
end
def Kb (n₀ Bn:Nat) (W W':World):Prop:=Below n₀ W W'/\W'.heap[Bn]? =W.heap[Bn]?
theorem Mc {T:TT} {W:World} (hT:T.Is W) {r:RR} (hr:r∈T.rows):left T (.pointer (some ⟨r.b,0,none⟩))=(T.rows.filter (Eh r.n)).length+1:=by
 have hnd:=hT.nd
 simp only[TT.blocks,List.nodup_cons,List.mem_cons,List.mem_append,List.nodup_append,not_or] at hnd
 obtain⟨-, -, -,h7, -⟩:=hnd
 have e:T.rows.find? (fun q=>q.b==r.b)=some r:=by
  cases h:T.rows.find? (fun q=>q.b==r.b) with
  |none=>
   have:=List.find?_eq_none.1 h r hr
   simp at this
  |some q=>
   have h1:=List.mem_of_find?_eq_some h
   have h2:=List.find?_some h
   have e2:q.b=r.b:=by simpa using h2
   rcases List.getElem?_of_mem h1 with ⟨i,hi⟩
   rcases List.getElem?_of_mem hr with ⟨j,hj⟩
   have e3:(T.rows.map (·.b))[i]? =some r.b:=by simp[hi,e2]
   have e4:(T.rows.map (·.b))[j]? =some r.b:=by simp[hj]
   have hij:=(List.getElem?_inj (by simpa using (List.getElem?_eq_some_iff.1 hi).1) h7).1 (e3.trans e4.symm)
   subst hij
   rw[hi] at hj
   exact hj
 simp only[left,e]
theorem Mr {T:TT} {W:World} (hT:T.Is W) {m:Nat}:left T (pv ((T.next m).map (·.b)))=(T.rows.filter (Eh m)).length:=by
 cases h:T.next m with
 |none=>rw[ZaS m _ h];rfl
 |some r=>
  rw[Ps m r T.rows hT.rise h]
  exact Mc hT (ZaD h).1
theorem each_in (n:Nat) (hn:1<=n) (l Bn n₀:Nat) (T:TT) (J Jx:List (KK×DD)->World->Prop)
  (W:World) (hAb:AbidesFrom W.heap.size J) (hT:T.Is W) (hlast:T.last<4000000) (hlt: ∀b∈T.blocks,b<n₀)
  (hY: ∀pre x W,J pre W->pre.length<T.live.length->YieldAt Fence.wide (n - 1) prog l (encP x) W fun e W'=>
   (e= .returned (.bool true)/\J (pre++ [x]) W'/\Kb n₀ Bn W W')∨(e= .returned (.bool false)/\Jx (pre++ [x]) W'))
  (hBn:W.cell? ⟨Bn,0,none⟩=some (.pointer (some ⟨T.t,0,none⟩))) (h0:J [] W) (hn₀:n₀<=W.heap.size):
  CallsIn Fence.wide n prog 183 #[.func (.yield l) #[] #[], .pointer (some ⟨Bn,0,none⟩)] W fun e W'=>(∃v,e= .returned v)/\
   ((∃ys,ys=T.live.map RR.pr/\J ys W')∨(∃pre,pre<+:T.live.map RR.pr/\Jx pre W')):=by
 have HN:=Ab (Rz T 0 W hT (by omega) (by omega))
 refine callsIn_of_wp func183 rfl trivial ?_ rfl
 simp only[ntmps183,List.size_toArray,List.length_cons,List.length_nil,Nat.reduceAdd,Nat.reduceSub,Array.replicate_succ,Array.replicate_zero,List.push_toArray,List.append_toArray,List.nil_append,List.cons_append]
 gi_wp2_with fail
 refine⟨trivial,(callsIn_wide.2 (Aa HN)).mono ?_⟩
 rintro e w1 ⟨rfl,rfl⟩
 gi_wp2
 gi_loopw [3] (fun s3 wr=> ∃(pre:List (KK×DD)) (m:Nat),s3=pv ((T.next m).map (·.b))/\Hid (T.live.map RR.pr=pre++(T.rows.filter (Eh m)).map RR.pr)/\Hid (J pre wr)/\Hid (T.Is wr)/\wr.cell? ⟨Bn,0,none⟩=some (.pointer (some ⟨T.t,0,none⟩))/\Hid (n₀<=wr.heap.size/\w1.heap.size<=wr.heap.size/\m<=T.last)) (fun s3 _=>left T s3)
 case atStart=>
  exact⟨[],0,rfl,Ab (by rw[Zds hT];rfl),Ab h0,Ab hT,hBn,Ab ⟨hn₀,Nat.le_refl _,Nat.zero_le _⟩⟩
 case round=>
  obtain⟨pre,m,rfl,HX,HJ,HT,hc,HZ⟩:=hrel
  have HY:=Ab hY
  have HAb:=Ab hAb
  clear hY hAb h0 hBn hT HN
  cases hnx:T.next m with
  |none=>
   rw[show pv ((none:Option RR).map (·.b))= .pointer none from rfl]
   gi_wp2
   refine wpIn_region_any (by kernel_rfl) ?_
   refine ip 0 (some 6) (.pointer none) rfl (by kernel_rfl) (by kernel_rfl) (by kernel_rfl) (fun _ _ _ h=>h) (by kernel_rfl) (by kernel_rfl) (fun _=>by kernel_rfl) (fun _=>by kernel_rfl) ?_
   simp only[nn]
   refine ip 1 (some 7) (.bool false) rfl (by kernel_rfl) (by kernel_rfl) (by kernel_rfl) (fun _ _ _ h=>h) (by kernel_rfl) (by kernel_rfl) (fun _=>by kernel_rfl) (fun _=>by kernel_rfl) ?_
   simp only[nn]
   refine ip 2 (some 8) (.bool false) rfl (by kernel_rfl) (by kernel_rfl) (by kernel_rfl) (fun _ _ _ h=>h) (by kernel_rfl) (by kernel_rfl) (fun _=>by kernel_rfl) (fun _=>by kernel_rfl) ?_
   simp only[nn]
   refine isk 3 (some 9) rfl (by kernel_rfl) (by kernel_rfl) (by kernel_rfl) (fun _ _ _ h=>h) (by kernel_rfl) (by kernel_rfl) (fun _=>by kernel_rfl) ?_
   simp only[nn]
   refine isk 4 (some 10) rfl (by kernel_rfl) (by kernel_rfl) (by kernel_rfl) (fun _ _ _ h=>h) (by kernel_rfl) (by kernel_rfl) (fun _=>by kernel_rfl) ?_
   simp only[nn]
   refine isk 5 (some 11) rfl (by kernel_rfl) (by kernel_rfl) (by kernel_rfl) (fun _ _ _ h=>h) (by kernel_rfl) (by kernel_rfl) (fun _=>by kernel_rfl) ?_
   simp only[nn]
   refine isk 6 (some 12) rfl (by kernel_rfl) (by kernel_rfl) (by kernel_rfl) (fun _ _ _ h=>h) (by kernel_rfl) (by kernel_rfl) (fun _=>by kernel_rfl) ?_
   simp only[nn]
   refine isk 7 (some 13) rfl (by kernel_rfl) (by kernel_rfl) (by kernel_rfl) (fun _ _ _ h=>h) (by kernel_rfl) (by kernel_rfl) (fun _=>by kernel_rfl) ?_
   simp only[nn]
   refine isk 8 (some 14) rfl (by kernel_rfl) (by kernel_rfl) (by kernel_rfl) (fun _ _ _ h=>h) (by kernel_rfl) (by kernel_rfl) (fun _=>by kernel_rfl) ?_
   simp only[nn]
   refine isk 9 (some 15) rfl (by kernel_rfl) (by kernel_rfl) (by kernel_rfl) (fun _ _ _ h=>h) (by kernel_rfl) (by kernel_rfl) (fun _=>by kernel_rfl) ?_
   simp only[nn]
   refine isk 10 (some 16) rfl (by kernel_rfl) (by kernel_rfl) (by kernel_rfl) (fun _ _ _ h=>h) (by kernel_rfl) (by kernel_rfl) (fun _=>by kernel_rfl) ?_
   simp only[nn]
   refine isk 11 (some 17) rfl (by kernel_rfl) (by kernel_rfl) (by kernel_rfl) (fun _ _ _ h=>h) (by kernel_rfl) (by kernel_rfl) (fun _=>by kernel_rfl) ?_
   simp only[nn]
   refine isk 12 (some 18) rfl (by kernel_rfl) (by kernel_rfl) (by kernel_rfl) (fun _ _ _ h=>h) (by kernel_rfl) (by kernel_rfl) (fun _=>by kernel_rfl) ?_
   simp only[nn]
   refine isk 13 (some 19) rfl (by kernel_rfl) (by kernel_rfl) (by kernel_rfl) (fun _ _ _ h=>h) (by kernel_rfl) (by kernel_rfl) (fun _=>by kernel_rfl) ?_
   simp only[nn]
   refine isk 14 (some 20) rfl (by kernel_rfl) (by kernel_rfl) (by kernel_rfl) (fun _ _ _ h=>h) (by kernel_rfl) (by kernel_rfl) (fun _=>by kernel_rfl) ?_
   simp only[nn]
   refine ip 15 (some 21) (.bool false) rfl (by kernel_rfl) (by kernel_rfl) (by kernel_rfl) (fun _ _ _ h=>h) (by kernel_rfl) (by kernel_rfl) (fun _=>by kernel_rfl) (fun _=>by kernel_rfl) ?_
   simp only[nn]
   refine wpAnyIn_done (by kernel_rfl) ?_ _
   try simp only[nn]
   gi_wp2
   go_end0
   refine⟨⟨_,rfl⟩, .inl ⟨pre, ?_, ?_⟩⟩
   ·rw[Aa HX,ZaS m _ hnx];simp
   ·exact(Aa HAb) pre wr wr.drew none (Aa HJ) (Dx ((Below.refl _ _).drew)) (fun r e=>by cases e)
  |some r=>
   rw[show pv ((some r:Option RR).map (·.b))= .pointer (some ⟨r.b,0,none⟩) from rfl]
   obtain⟨hrm,hrn,hrg⟩:=ZaD hnx
   have HR:=Ab ((Aa HT).rows r hrm)
   have hfc:=Ps m r T.rows (Aa HT).rise hnx
   have hlv:T.live.length=pre.length+((T.rows.filter (Eh r.n)).length+1):=by
    have:=congrArg List.length (Aa HX)
    rw[hfc] at this
    simpa using this
   have hJ1:=(Aa HAb) pre wr wr.drew none (Aa HJ) (Dx ((Below.refl _ _).drew)) (fun r e=>by cases e)
   obtain⟨fn,tmps,asg,bd,hy,hRd⟩:=(Aa HY) pre r.pr wr.drew hJ1 (by omega)
   have HRd:=Ab hRd
   have Hy:Hid ((Instr.yield l #[r.k.agg,r.d.agg]).run prog wr.drew= .ok (.round l fn tmps asg bd) wr.drew):=Ab hy
   have Hfc:=Ab hfc
   have Hrn:=Ab (And.intro hrm (And.intro hrn hrg))
   clear hRd hy hJ1 hfc hlv hrm hrn hrg
   gi_wp2
   refine wpIn_region_any (by kernel_rfl) ?_
   refine ip 0 (some 6) (.pointer (some ⟨r.b,0,none⟩)) rfl (by kernel_rfl) (by kernel_rfl) (by kernel_rfl) (fun _ _ _ h=>h) (by kernel_rfl) (by kernel_rfl) (fun _=>by kernel_rfl) (fun _=>by kernel_rfl) ?_
   simp only[nn]
   refine ip 1 (some 7) (.bool true) rfl (by kernel_rfl) (by kernel_rfl) (by kernel_rfl) (fun _ _ _ h=>h) (by kernel_rfl) (by kernel_rfl) (fun _=>by kernel_rfl) (fun _=>by kernel_rfl) ?_
   simp only[nn]
   refine ip 2 (some 8) (.bool true) rfl (by kernel_rfl) (by kernel_rfl) (by kernel_rfl) (fun _ _ _ h=>h) (by kernel_rfl) (by kernel_rfl) (fun _=>by kernel_rfl) (fun _=>by kernel_rfl) ?_
   simp only[nn]
   refine ip 3 (some 9) (.func (.yield l) #[] #[]) rfl (by kernel_rfl) (by kernel_rfl) (by kernel_rfl) (fun _ _ _ h=>h) (by kernel_rfl) (by kernel_rfl) (fun _=>by kernel_rfl) (fun _=>by kernel_rfl) ?_
   simp only[nn]
   refine ip 4 (some 10) (.pointer (some ⟨r.b,0,none⟩)) rfl (by kernel_rfl) (by kernel_rfl) (by kernel_rfl) (fun _ _ _ h=>h) (by kernel_rfl) (by kernel_rfl) (fun _=>by kernel_rfl) (fun _=>by kernel_rfl) ?_
   simp only[nn]
   refine ip 5 (some 11) (.pointer (some ⟨r.b,0,none⟩)) rfl (by kernel_rfl) (by kernel_rfl) (by kernel_rfl) (fun _ _ _ h=>h) (by kernel_rfl) (by kernel_rfl) (fun _=>by kernel_rfl) (fun _=>by kernel_rfl) ?_
   simp only[nn]
   refine ip 6 (some 12) (.pointer (some ⟨r.b,0,none⟩)) rfl (by kernel_rfl) (by kernel_rfl) (by kernel_rfl) (fun _ _ _ h=>h) (by kernel_rfl) (by kernel_rfl) (fun _=>by kernel_rfl) (fun _=>by kernel_rfl) ?_
   simp only[nn]
   refine ip 7 (some 13) (.pointer (some ⟨r.b,0,none⟩)) rfl (by kernel_rfl) (by kernel_rfl) (by kernel_rfl) (fun _ _ _ h=>h) (by kernel_rfl) (by kernel_rfl) (fun _=>by kernel_rfl) (fun _=>by kernel_rfl) ?_
   simp only[nn]
   refine ip 9 (some 15) (.pointer (some ⟨r.b,0,none⟩)) rfl (by kernel_rfl) (by kernel_rfl) (by kernel_rfl) (fun _ _ _ h=>h) (by kernel_rfl) (by kernel_rfl) (fun _=>by kernel_rfl) (fun _=>by kernel_rfl) ?_
   simp only[nn]
   refine ip 10 (some 16) (.pointer (some ⟨r.b,0,none⟩)) rfl (by kernel_rfl) (by kernel_rfl) (by kernel_rfl) (fun _ _ _ h=>h) (by kernel_rfl) (by kernel_rfl) (fun _=>by kernel_rfl) (fun _=>by kernel_rfl) ?_
   simp only[nn]
   refine ip 11 (some 17) (.pointer (some ⟨r.b,0,none⟩)) rfl (by kernel_rfl) (by kernel_rfl) (by kernel_rfl) (fun _ _ _ h=>h) (by kernel_rfl) (by kernel_rfl) (fun _=>by kernel_rfl) (fun _=>by kernel_rfl) ?_
   simp only[nn]
   refine ip 12 (some 18) (.pointer (some ⟨r.b,2,none⟩)) rfl (by kernel_rfl) (by kernel_rfl) (by kernel_rfl) (fun _ _ _ h=>h) (by kernel_rfl) (by kernel_rfl) (fun _=>by kernel_rfl) (fun _=>by kernel_rfl) ?_
   simp only[nn]
   refine wpAnyIn_ready (rs:= [8,13]) (by kernel_rfl) (by simp) (Qm 8 (some 14) rfl (by kernel_rfl) (by kernel_rfl) (Aj (vs:=r.k.cs) 40 2 Ga Gw rfl rfl ((Holds.block (Aa HR) rfl)) rfl rfl) ?_ (Qm 13 (some 19) rfl (by kernel_rfl) (by kernel_rfl) (Aj (vs:=r.d.cs) 43 18 Rp Nb rfl rfl ((Holds.block (Aa HR) rfl)) rfl rfl) ?_ AllReadyIn.nil))
   ·simp only[nn]
    refine wpAnyIn_ready (rs:= [13]) (by kernel_rfl) (by simp) (Qm 13 (some 19) rfl (by kernel_rfl) (by kernel_rfl) (Aj (vs:=r.d.cs) 43 18 Rp Nb rfl rfl ((Holds.block (Aa HR) rfl)) rfl rfl) ?_ AllReadyIn.nil)
    simp only[nn]
    refine wpAnyIn_ready (rs:= [14]) (by kernel_rfl) (by simp) (iround 14 (some 20) rfl (by kernel_rfl) (by kernel_rfl) (Eq.trans (b:=(Instr.yield l #[r.k.agg,r.d.agg]).run prog wr.drew) (by kernel_rfl) (Aa Hy)) (Aa HRd) ?_ AllReadyIn.nil)
    rintro e W3 (⟨rfl,hJ3,hb3⟩|⟨rfl,hJx3⟩)
    ·refine⟨_,rfl, ?_⟩
     simp only[nn]
     refine ip 15 (some 21) (.bool true) rfl (by kernel_rfl) (by kernel_rfl) (by kernel_rfl) (fun _ _ _ h=>h) (by kernel_rfl) (by kernel_rfl) (fun _=>by kernel_rfl) (fun _=>by kernel_rfl) ?_
     simp only[nn]
     refine wpAnyIn_done (by kernel_rfl) ?_ _
     try simp only[nn]
     have HT3:=Ab ((Aa HT).block (fun b hb=>hb3.1.block b (hlt b hb)))
     have hc3:W3.cell? ⟨Bn,0,none⟩=some (.pointer (some ⟨T.t,0,none⟩)):=(World.cell?_of_block (a:=⟨Bn,0,none⟩) hb3.2).trans hc
     have HJ3:=Ab hJ3
     have Hs3:=Ab hb3.1.size
     clear hJ3 hb3
     gi_wp2
     refine wpIn_region_any (by kernel_rfl) ?_
     refine ip 1 (some 23) (.pointer (some ⟨r.b,0,none⟩)) rfl (by kernel_rfl) (by kernel_rfl) (by kernel_rfl) (fun _ _ _ h=>h) (by kernel_rfl) (by kernel_rfl) (fun _=>by kernel_rfl) (fun _=>by kernel_rfl) ?_
     simp only[nn]
     refine ip 2 (some 24) (.pointer (some ⟨r.b,0,none⟩)) rfl (by kernel_rfl) (by kernel_rfl) (by kernel_rfl) (fun _ _ _ h=>h) (by kernel_rfl) (by kernel_rfl) (fun _=>by kernel_rfl) (fun _=>by kernel_rfl) ?_
     simp only[nn]
     refine ip 3 (some 25) (.pointer (some ⟨r.b,20,none⟩)) rfl (by kernel_rfl) (by kernel_rfl) (by kernel_rfl) (fun _ _ _ h=>h) (by kernel_rfl) (by kernel_rfl) (fun _=>by kernel_rfl) (fun _=>by kernel_rfl) ?_
     simp only[nn]
     refine wpAnyIn_ready (rs:= [0,4]) (by kernel_rfl) (by simp) (Qm 0 (some 22) rfl (by kernel_rfl) (by kernel_rfl) (Gj (W:=W3.drew) 119 isAgg119 rfl rfl hc3) ?_ (Qm 4 (some 26) rfl (by kernel_rfl) (by kernel_rfl) (Ad 101 isAgg101 rfl rfl ((Holds.block ((Aa HT3).rows r (Aa Hrn).1) rfl:Holds W3.drew r.b r.cs)) rfl) ?_ AllReadyIn.nil))
     ·simp only[nn]
      refine wpAnyIn_ready (rs:= [4]) (by kernel_rfl) (by simp) (Qm 4 (some 26) rfl (by kernel_rfl) (by kernel_rfl) (Ad 101 isAgg101 rfl rfl ((Holds.block ((Aa HT3).rows r (Aa Hrn).1) rfl:Holds W3.drew r.b r.cs)) rfl) ?_ AllReadyIn.nil)
      simp only[nn]
      refine wpAnyIn_ready (rs:= [5]) (by kernel_rfl) (by simp) (Zcw 5 (some 27) rfl (by kernel_rfl) (by kernel_rfl) (by kernel_rfl) (Rz T r.n W3.drew (Aa HT3).drew (by omega) (by have:=((Aa HT3).num r (Aa Hrn).1).2;omega)) ?_ AllReadyIn.nil)
      rintro e X ⟨rfl,rfl⟩
      refine⟨_,rfl, ?_⟩
      simp only[nn]
      refine ip 6 (some 3) (pv ((T.next r.n).map (·.b))) rfl (by kernel_rfl) (by kernel_rfl) (by kernel_rfl) (fun _ _ _ h=>h) (by kernel_rfl) (by kernel_rfl) (fun _=>by kernel_rfl) (fun _=>by kernel_rfl) ?_
      simp only[nn]
      refine wpAnyIn_done (by kernel_rfl) ?_ _
      try simp only[nn]
      gi_wp2
      go_roundw
      case rel=>
       refine⟨pre++ [r.pr],r.n,rfl,Ab ?_,Ab ?_,Ab (Aa HT3).drew,hc3,Ab ?_⟩
       ·rw[Aa HX,Aa Hfc];simp
       ·exact(Aa HAb) _ W3 W3.drew none (Aa HJ3) (Dx ((Below.refl _ _).drew)) (fun r e=>by cases e)
       ·have h1:=Aa HZ;have h2:wr.heap.size<=W3.heap.size:=Aa Hs3;have h3:=((Aa HT3).num r (Aa Hrn).1).2;exact⟨Nat.le_trans h1.1 h2,Nat.le_trans h1.2.1 h2,h3⟩
      case measure=>
       rw[Mr (Aa HT3),Mc (Aa HT3) (Aa Hrn).1]
       exact Nat.lt_succ_self _
     ·simp only[nn]
      refine wpAnyIn_ready (rs:= [0]) (by kernel_rfl) (by simp) (Qm 0 (some 22) rfl (by kernel_rfl) (by kernel_rfl) (Gj (W:=W3.drew) 119 isAgg119 rfl rfl hc3) ?_ AllReadyIn.nil)
      simp only[nn]
      refine wpAnyIn_ready (rs:= [5]) (by kernel_rfl) (by simp) (Zcw 5 (some 27) rfl (by kernel_rfl) (by kernel_rfl) (by kernel_rfl) (Rz T r.n W3.drew (Aa HT3).drew (by omega) (by have:=((Aa HT3).num r (Aa Hrn).1).2;omega)) ?_ AllReadyIn.nil)
      rintro e X ⟨rfl,rfl⟩
      refine⟨_,rfl, ?_⟩
      simp only[nn]
      refine ip 6 (some 3) (pv ((T.next r.n).map (·.b))) rfl (by kernel_rfl) (by kernel_rfl) (by kernel_rfl) (fun _ _ _ h=>h) (by kernel_rfl) (by kernel_rfl) (fun _=>by kernel_rfl) (fun _=>by kernel_rfl) ?_
      simp only[nn]
      refine wpAnyIn_done (by kernel_rfl) ?_ _
      try simp only[nn]
      gi_wp2
      go_roundw
      case rel=>
       refine⟨pre++ [r.pr],r.n,rfl,Ab ?_,Ab ?_,Ab (Aa HT3).drew,hc3,Ab ?_⟩
       ·rw[Aa HX,Aa Hfc];simp
       ·exact(Aa HAb) _ W3 W3.drew none (Aa HJ3) (Dx ((Below.refl _ _).drew)) (fun r e=>by cases e)
       ·have h1:=Aa HZ;have h2:wr.heap.size<=W3.heap.size:=Aa Hs3;have h3:=((Aa HT3).num r (Aa Hrn).1).2;exact⟨Nat.le_trans h1.1 h2,Nat.le_trans h1.2.1 h2,h3⟩
      case measure=>
       rw[Mr (Aa HT3),Mc (Aa HT3) (Aa Hrn).1]
       exact Nat.lt_succ_self _
    ·refine⟨_,rfl, ?_⟩
     simp only[nn]
     refine ip 15 (some 21) (.bool false) rfl (by kernel_rfl) (by kernel_rfl) (by kernel_rfl) (fun _ _ _ h=>h) (by kernel_rfl) (by kernel_rfl) (fun _=>by kernel_rfl) (fun _=>by kernel_rfl) ?_
     simp only[nn]
     refine wpAnyIn_done (by kernel_rfl) ?_ _
     try simp only[nn]
     have HJx:=Ab hJx3
     clear hJx3
     gi_wp2
     go_end0
     refine⟨⟨_,rfl⟩, .inr ⟨pre++ [r.pr], ?_,Aa HJx⟩⟩
     rw[Aa HX,Aa Hfc]
     exact⟨(T.rows.filter (Eh r.n)).map RR.pr,by simp⟩
   ·simp only[nn]
    refine wpAnyIn_ready (rs:= [8]) (by kernel_rfl) (by simp) (Qm 8 (some 14) rfl (by kernel_rfl) (by kernel_rfl) (Aj (vs:=r.k.cs) 40 2 Ga Gw rfl rfl ((Holds.block (Aa HR) rfl)) rfl rfl) ?_ AllReadyIn.nil)
    simp only[nn]
    refine wpAnyIn_ready (rs:= [14]) (by kernel_rfl) (by simp) (iround 14 (some 20) rfl (by kernel_rfl) (by kernel_rfl) (Eq.trans (b:=(Instr.yield l #[r.k.agg,r.d.agg]).run prog wr.drew) (by kernel_rfl) (Aa Hy)) (Aa HRd) ?_ AllReadyIn.nil)
    rintro e W3 (⟨rfl,hJ3,hb3⟩|⟨rfl,hJx3⟩)
    ·refine⟨_,rfl, ?_⟩
     simp only[nn]
     refine ip 15 (some 21) (.bool true) rfl (by kernel_rfl) (by kernel_rfl) (by kernel_rfl) (fun _ _ _ h=>h) (by kernel_rfl) (by kernel_rfl) (fun _=>by kernel_rfl) (fun _=>by kernel_rfl) ?_
     simp only[nn]
     refine wpAnyIn_done (by kernel_rfl) ?_ _
     try simp only[nn]
     have HT3:=Ab ((Aa HT).block (fun b hb=>hb3.1.block b (hlt b hb)))
     have hc3:W3.cell? ⟨Bn,0,none⟩=some (.pointer (some ⟨T.t,0,none⟩)):=(World.cell?_of_block (a:=⟨Bn,0,none⟩) hb3.2).trans hc
     have HJ3:=Ab hJ3
     have Hs3:=Ab hb3.1.size
     clear hJ3 hb3
     gi_wp2
     refine wpIn_region_any (by kernel_rfl) ?_
     refine ip 1 (some 23) (.pointer (some ⟨r.b,0,none⟩)) rfl (by kernel_rfl) (by kernel_rfl) (by kernel_rfl) (fun _ _ _ h=>h) (by kernel_rfl) (by kernel_rfl) (fun _=>by kernel_rfl) (fun _=>by kernel_rfl) ?_
     simp only[nn]
     refine ip 2 (some 24) (.pointer (some ⟨r.b,0,none⟩)) rfl (by kernel_rfl) (by kernel_rfl) (by kernel_rfl) (fun _ _ _ h=>h) (by kernel_rfl) (by kernel_rfl) (fun _=>by kernel_rfl) (fun _=>by kernel_rfl) ?_
     simp only[nn]
     refine ip 3 (some 25) (.pointer (some ⟨r.b,20,none⟩)) rfl (by kernel_rfl) (by kernel_rfl) (by kernel_rfl) (fun _ _ _ h=>h) (by kernel_rfl) (by kernel_rfl) (fun _=>by kernel_rfl) (fun _=>by kernel_rfl) ?_
     simp only[nn]
     refine wpAnyIn_ready (rs:= [0,4]) (by kernel_rfl) (by simp) (Qm 0 (some 22) rfl (by kernel_rfl) (by kernel_rfl) (Gj (W:=W3.drew) 119 isAgg119 rfl rfl hc3) ?_ (Qm 4 (some 26) rfl (by kernel_rfl) (by kernel_rfl) (Ad 101 isAgg101 rfl rfl ((Holds.block ((Aa HT3).rows r (Aa Hrn).1) rfl:Holds W3.drew r.b r.cs)) rfl) ?_ AllReadyIn.nil))
     ·simp only[nn]
      refine wpAnyIn_ready (rs:= [4]) (by kernel_rfl) (by simp) (Qm 4 (some 26) rfl (by kernel_rfl) (by kernel_rfl) (Ad 101 isAgg101 rfl rfl ((Holds.block ((Aa HT3).rows r (Aa Hrn).1) rfl:Holds W3.drew r.b r.cs)) rfl) ?_ AllReadyIn.nil)
      simp only[nn]
      refine wpAnyIn_ready (rs:= [5]) (by kernel_rfl) (by simp) (Zcw 5 (some 27) rfl (by kernel_rfl) (by kernel_rfl) (by kernel_rfl) (Rz T r.n W3.drew (Aa HT3).drew (by omega) (by have:=((Aa HT3).num r (Aa Hrn).1).2;omega)) ?_ AllReadyIn.nil)
      rintro e X ⟨rfl,rfl⟩
      refine⟨_,rfl, ?_⟩
      simp only[nn]
      refine ip 6 (some 3) (pv ((T.next r.n).map (·.b))) rfl (by kernel_rfl) (by kernel_rfl) (by kernel_rfl) (fun _ _ _ h=>h) (by kernel_rfl) (by kernel_rfl) (fun _=>by kernel_rfl) (fun _=>by kernel_rfl) ?_
      simp only[nn]
      refine wpAnyIn_done (by kernel_rfl) ?_ _
      try simp only[nn]
      gi_wp2
      go_roundw
      case rel=>
       refine⟨pre++ [r.pr],r.n,rfl,Ab ?_,Ab ?_,Ab (Aa HT3).drew,hc3,Ab ?_⟩
       ·rw[Aa HX,Aa Hfc];simp
       ·exact(Aa HAb) _ W3 W3.drew none (Aa HJ3) (Dx ((Below.refl _ _).drew)) (fun r e=>by cases e)
       ·have h1:=Aa HZ;have h2:wr.heap.size<=W3.heap.size:=Aa Hs3;have h3:=((Aa HT3).num r (Aa Hrn).1).2;exact⟨Nat.le_trans h1.1 h2,Nat.le_trans h1.2.1 h2,h3⟩
      case measure=>
       rw[Mr (Aa HT3),Mc (Aa HT3) (Aa Hrn).1]
       exact Nat.lt_succ_self _
     ·simp only[nn]
      refine wpAnyIn_ready (rs:= [0]) (by kernel_rfl) (by simp) (Qm 0 (some 22) rfl (by kernel_rfl) (by kernel_rfl) (Gj (W:=W3.drew) 119 isAgg119 rfl rfl hc3) ?_ AllReadyIn.nil)
      simp only[nn]
      refine wpAnyIn_ready (rs:= [5]) (by kernel_rfl) (by simp) (Zcw 5 (some 27) rfl (by kernel_rfl) (by kernel_rfl) (by kernel_rfl) (Rz T r.n W3.drew (Aa HT3).drew (by omega) (by have:=((Aa HT3).num r (Aa Hrn).1).2;omega)) ?_ AllReadyIn.nil)
      rintro e X ⟨rfl,rfl⟩
      refine⟨_,rfl, ?_⟩
      simp only[nn]
      refine ip 6 (some 3) (pv ((T.next r.n).map (·.b))) rfl (by kernel_rfl) (by kernel_rfl) (by kernel_rfl) (fun _ _ _ h=>h) (by kernel_rfl) (by kernel_rfl) (fun _=>by kernel_rfl) (fun _=>by kernel_rfl) ?_
      simp only[nn]
      refine wpAnyIn_done (by kernel_rfl) ?_ _
      try simp only[nn]
      gi_wp2
      go_roundw
      case rel=>
       refine⟨pre++ [r.pr],r.n,rfl,Ab ?_,Ab ?_,Ab (Aa HT3).drew,hc3,Ab ?_⟩
       ·rw[Aa HX,Aa Hfc];simp
       ·exact(Aa HAb) _ W3 W3.drew none (Aa HJ3) (Dx ((Below.refl _ _).drew)) (fun r e=>by cases e)
       ·have h1:=Aa HZ;have h2:wr.heap.size<=W3.heap.size:=Aa Hs3;have h3:=((Aa HT3).num r (Aa Hrn).1).2;exact⟨Nat.le_trans h1.1 h2,Nat.le_trans h1.2.1 h2,h3⟩
      case measure=>
       rw[Mr (Aa HT3),Mc (Aa HT3) (Aa Hrn).1]
       exact Nat.lt_succ_self _
    ·refine⟨_,rfl, ?_⟩
     simp only[nn]
     refine ip 15 (some 21) (.bool false) rfl (by kernel_rfl) (by kernel_rfl) (by kernel_rfl) (fun _ _ _ h=>h) (by kernel_rfl) (by kernel_rfl) (fun _=>by kernel_rfl) (fun _=>by kernel_rfl) ?_
     simp only[nn]
     refine wpAnyIn_done (by kernel_rfl) ?_ _
     try simp only[nn]
     have HJx:=Ab hJx3
     clear hJx3
     gi_wp2
     go_end0
     refine⟨⟨_,rfl⟩, .inr ⟨pre++ [r.pr], ?_,Aa HJx⟩⟩
     rw[Aa HX,Aa Hfc]
     exact⟨(T.rows.filter (Eh r.n)).map RR.pr,by simp⟩
end
section
open Go Go.Proofs Go.Maps Go.RowKit Tryz
attribute [local go_sem] Oper.semAt_some
section
variable {F : Fence} {n : Nat} {ops : Array Oper} {rest : List Oper} {Q : Exit → Act → World → Prop} {w X : World} {a : Act} {o : Oper}
theorem inV {V:Value} (hF: ∀f,F.fn f) (hw:Region.wanted o (yielded ops a.tmps)=true) (hnd: ∀c,o.op≠ .defer c) (he:(execOp a.eval o).run prog w= .ok (.value V) X)
  (h:wpListIn F n prog ops Q rest (a.put o.dst V) X):wpListIn F n prog ops Q (o::rest) a w:=by
 refine BigFrame.wpListIn_want hw fun K hK=> ?_
 refine⟨fun f _=>hF f, ?_⟩
 have e:o.semAt F.round a.eval=execOp a.eval o:=by
  cases F.round with
  |none=>rfl
  |some l=>exact Oper.semAt_some l _ _ hnd
 rw[e,he]
 exact hK _ _ h
theorem inS (hF: ∀f,F.fn f) (hw:Region.wanted o (yielded ops a.tmps)=true) (hnd: ∀c,o.op≠ .defer c) (he:(execOp a.eval o).run prog w= .ok .skip X)
  (h:wpListIn F n prog ops Q rest (a.put o.dst undef) X):wpListIn F n prog ops Q (o::rest) a w:=by
 refine BigFrame.wpListIn_want hw fun K hK=> ?_
 refine⟨fun f _=>hF f, ?_⟩
 have e:o.semAt F.round a.eval=execOp a.eval o:=by
  cases F.round with
  |none=>rfl
  |some l=>exact Oper.semAt_some l _ _ hnd
 rw[e,he]
 exact hK _ _ h
theorem Er {t:TypeId} {b p:Nat} {cs vs:List Value} {v:Value} {x y:Operand} (ho:o.op= .store t x y) (hx:a.eval x= .pointer (some ⟨b,p,none⟩)) (hy:a.eval y=v) (hv:v.cells.toList=vs) (h1: ∀u∈vs,u.oneCell'=true) (hi:(prog.info? t).map (·.size)=some vs.length) (hH:Holds w b cs) (hp:p+vs.length<=cs.length):
  (execOp a.eval o).run prog w= .ok .skip (w.setCells b p vs):=by
 unfold execOp
 simp only[ho,hx,hy,Instr.storeAt,Instr.sureAddr,Sem.run_bind,Sem.run_pure,Result.andThen_ok,Ee w b p t v vs hv (hH.there p vs.length hp) hi h1]
theorem ZbM (ho:o.op= .alloc 40):(execOp a.eval o).run prog w= .ok (.value (.pointer (some ⟨w.heap.size,0,none⟩))) (w.alloc (Obj.cells Ey.cs.toArray 40)):=by
 unfold execOp
 simp only[ho]
 simp[go_sem,Tryz.zeroValue40]
 rfl
theorem Ye {t e:TypeId} {size bytes:Nat} {z v:Value} {cs:List Value} {x:Operand} (ho:o.op= .buildSlice t 1 #[(0,x)]) (hx:a.eval x=v)
  (ht:prog.underlying t=some (.slice e)) (hi:(prog.info? e).map (fun i=>(i.zero,i.size,i.bytes))=some (some z,size,bytes)) (hs1:size<=100) (hv:v.cells.toList=cs) (hc:cs.length=size) (h0:0<size):
  (execOp a.eval o).run prog w= .ok (.value (.slice (some ⟨w.heap.size,0,none⟩) 1 1)) (w.alloc (Obj.cells cs.toArray e)):=by
 obtain⟨i0,hi,hz0,hz1,hz2⟩:=info_parts hi
 have ev:v.cells=cs.toArray:=by rw[←hv]
 have es:v.cells.size=size:=by rw[ev];simpa using hc
 have hr:=run_buildSlice w t e 1 #[(0,v)] cs.toArray i0 _ ht hi hz0 (by rw[hz1];omega) (by rw[hz1];omega) (by
  rw[hz1,←ev]
  exact ZaX size _ v (by simp) es)
 unfold execOp
 simp only[ho,List.map_toArray,List.map_cons,List.map_nil,hx]
 simp[hr]
theorem Zdx {t e:TypeId} {size bytes k m c B base:Nat} {z v:Value} {xs news:List Value} {s x:Operand} (ho:o.op= .call {callee:= .builtin .append,args:= #[s,x],argTypes:= #[t,t]}) (hs:a.eval s=v) (hx:a.eval x= .slice (some ⟨B,0,none⟩) m c)
  (ht:prog.underlying t=some (.slice e)) (hi:(prog.info? e).map (fun i=>(i.zero,i.size,i.bytes))=some (some z,size,bytes)) (hz:z.cells.size=size) (hsz:0<size) (hown:w.ownsRow base e size v k xs) (hB:Holds w B news) (hl:news.length=m * size) (h1: ∀u∈news,u.oneCell'=true)
  (hn:k+m<=4000000) (hby:bytes<=10000) (hbase:base<=w.heap.size):
  ∃A c' w',(execOp a.eval o).run prog w= .ok (.value (.slice A (k+m) c')) w'/\w'.ownsRow base e size (.slice A (k+m) c') (k+m) (xs++news)/\w.grownBy w' v.ownBlock:=by
 obtain⟨i0,hi,hz0,hz1,hz2⟩:=info_parts hi
 obtain⟨v',w',hrun,h2,h3,h4⟩:=Ge w base t o.type e i0 _ size bytes ht hi hz0 hz1 hz2 hz hsz v k xs hown ⟨B,0,none⟩ m c news hl (fun j u hj=>by
  rw[Addr.add_mid]
  exact hB.2 j u hj) h1 (by unfold maxLen;omega) (Nat.le_trans (Nat.mul_le_mul hn hby) (by decide)) hbase
 obtain⟨A',c',rfl⟩:=Eg h2
 refine⟨A',c',w', ?_,h2,h3⟩
 simp[execOp,ho,resolve,invoke,builtin,hs,hx,hrun,Result.andThen]
end
theorem appI {F:Fence} {n:Nat} {ops:Array Oper} {rest:List Oper} {Q:Exit->Act->World->Prop} {w:World} {a:Act} {o:Oper} {t e:TypeId} {size bytes k m c B base:Nat} {z v:Value} {xs news:List Value} {s x:Operand} (hF: ∀f,F.fn f) (hw:Region.wanted o (yielded ops a.tmps)=true) (ho:o.op= .call {callee:= .builtin .append,args:= #[s,x],argTypes:= #[t,t]}) (hs:a.eval s=v) (hx:a.eval x= .slice (some ⟨B,0,none⟩) m c)
  (ht:prog.underlying t=some (.slice e)) (hi:(prog.info? e).map (fun i=>(i.zero,i.size,i.bytes))=some (some z,size,bytes)) (hz:z.cells.size=size) (hsz:0<size) (hown:w.ownsRow base e size v k xs) (hB:Holds w B news) (hl:news.length=m * size) (h1: ∀u∈news,u.oneCell'=true)
  (hn:k+m<=4000000) (hby:bytes<=10000) (hbase:base<=w.heap.size)
  (h: ∀A c' w',w'.ownsRow base e size (.slice A (k+m) c') (k+m) (xs++news)->w.grownBy w' v.ownBlock->wpListIn F n prog ops Q rest (a.put o.dst (.slice A (k+m) c')) w'):wpListIn F n prog ops Q (o::rest) a w:=by
 obtain⟨A,c',w',he,h2,h3⟩:=Zdx ho hs hx ht hi hz hsz hown hB hl h1 hn hby hbase
 exact inV hF hw (fun c e=>by rw[ho] at e;cases e) he (h A c' w' h2 h3)
theorem Za8 {W:World} {B:Nat} {t:TypeId} {v:Value} (h:Boxed W B t v):Holds W B [v]:=by
 refine⟨fun j=>by simp[World.frozen?,show W.heap[B]? =_ from h],fun j u hu=> ?_⟩
 obtain rfl:j=0:=by
  have:=(List.getElem?_eq_some_iff.1 hu).1
  simpa using this
 obtain rfl:v=u:=by simpa using hu
 exact h.cell
theorem ZdG {β:Type} (B:Nat) (t:TypeId) (v:Value):Own (fun (_:β) W=>Boxed W B t v):=by
 intro s X Y row hv hg hrow
 refine hv.kept hg (fun e'=> ?_)
 obtain⟨o,ho,hc⟩:=hrow B e'.symm
 rw[show X.heap[B]? =_ from hv] at ho;cases ho;cases hc
theorem Zdq {X Y:World} {row:Option Nat} {b:Nat} {cs:List Value} (h:Holds X b cs) (hc:0<cs.length) (hg:X.grownBy Y row) (hrow: ∀r,row=some r-> ∃o:Obj,X.heap[r]? =some o/\o.isCells=false):Holds Y b cs:=by
 refine h.block (hg.block b (h.lt hc) (fun e'=> ?_))
 obtain⟨o,ho,hco⟩:=hrow b e'.symm
 have h0:=h.cell 0 (List.getElem?_eq_getElem hc)
 cases o<;>simp[World.cell?,ho] at h0<;>simp[Obj.isCells] at hco
theorem new_var (W:World) (c0 cs:List Value) (t:TypeId) (hc:cs.length<=c0.length) (he:Dh c0 0 cs=cs) (h0:0<c0.length):Below W.heap.size W ((W.alloc (Obj.cells c0.toArray t)).setCells W.heap.size 0 cs)/\Holds ((W.alloc (Obj.cells c0.toArray t)).setCells W.heap.size 0 cs) W.heap.size cs/\((W.alloc (Obj.cells c0.toArray t)).setCells W.heap.size 0 cs).heap.size=W.heap.size+1:=by
 refine⟨Ka (Nat.le_refl _) _ _ _ ((Below.refl _ _).alloc (Nat.le_refl _) _), ?_,by rw[En];simp⟩
 have:=(Holds.new W c0 t).put 0 cs (by omega)
 rw[he] at this
 exact this
theorem kb_t {n₀ Bn:Nat} {A B C:World} (h:Kb n₀ Bn A B) (k:Kb n₀ Bn B C):Kb n₀ Bn A C:=⟨h.1.trans k.1,k.2.trans h.2⟩
theorem kb_b {n₀ Bn:Nat} {w:World} (hn:n₀<=w.heap.size) (hB:Bn<w.heap.size) (W:World) (l:Nat) (o o':Obj) (hl:w.heap.size<=l) (h:W.heap[l]? =some o) (h1:o.isCells=false) (h2:o.isWalk=false):Kb n₀ Bn W (W.putObj l o'):=
 ⟨belowK_b hn W l o o' hl h h1 h2,by
  show (W.heap.setIfInBounds l o')[Bn]? =_
  rw[Array.getElem?_setIfInBounds_ne (by omega)]⟩
theorem Pi {w w':World} {base e size n:Nat} {v:Value} {xs:List Value} (h:w.ownsRow base e size v n xs) (he: ∀g,v.ownBlock=some g->w'.heap[g]? =w.heap[g]?):w'.ownsRow base e size v n xs:=by
 obtain⟨h1,h2⟩:=h
 refine⟨h1, ?_⟩
 rcases h2 with h2|⟨g,cap,cur,rfl,h3,h4,h5⟩
 ·exact .inl h2
 ·exact .inr ⟨g,cap,cur,rfl,h3,(he g rfl).trans h4,h5⟩
theorem ZbQ (T:TT) (n:Nat) (hn:1<=n) (Bn n₀:Nat) (w:World) (hT:T.Is w) (hlast:T.last<4000000) (hlt: ∀b∈T.blocks,b<n₀) (hBs:Bn<w.heap.size) (hBn:w.cell? ⟨Bn,0,none⟩=some (.pointer (some ⟨T.t,0,none⟩))) (hn₀:n₀<=w.heap.size):
  SeqStopsK Fence.wide n prog 183 #[.pointer (some ⟨Bn,0,none⟩)] encP (Kb n₀ Bn) (fun ys=>ys=T.live.map RR.pr) (fun pre=>pre<+:T.live.map RR.pr) T.live.length w:=by
 intro l J Jx W hW hJ hJx hY h0
 exact each_in n hn l Bn n₀ T J Jx W hJ (hT.on hW) hlast hlt hY ((hW.cell (p:=⟨Bn,0,none⟩) hBs).trans hBn) h0 (by have:=hW.size;omega)
def La (l:List KK):List KK:=Gl (mg (ixs l))++Gp l++Gx l
theorem siz64:(prog.info? 55).map (·.size)=some 1:=by kernel_rfl
theorem keys28 (T:TT) (w:World) (hT:T.Is w) (hlast:T.last<4000000) (hl:T.live.length<=1500000) (hU:Lib.Utf8Tabs 0 1 w) (hP:TabP w):Calls prog 170 #[.pointer (some ⟨T.t,0,none⟩)] w fun e w'=> ∃v,e= .returned v/\OwnK w' w.heap.size v (La (T.live.map (·.k)))/\Below w.heap.size w w':=by
 refine(callsIn_wide (n:=4)).1 ?_
 have HL:=Ab (len30 T w hT)
 have HE:=Ab (fun X=>each41 T X)
 have HT:=Ab hT
 clear hT
 refine callsIn_of_wp_marks func170 rfl trivial ?_ rfl
 simp only[ntmps170,List.size_toArray,List.length_cons,List.length_nil,Nat.reduceAdd,Nat.reduceSub,Array.replicate_succ,Array.replicate_zero,List.push_toArray,List.append_toArray,List.nil_append,List.cons_append]
 gi_wp2_with fail
 refine⟨trivial,(callsIn_wide.2 (Aa HL)).mono ?_⟩
 rintro e w1 ⟨rfl,rfl⟩
 obtain⟨i0,hi,hz0,hz1,hz2⟩:=info_parts Mu
 obtain⟨wm,hrun,hm1,hm2⟩:=run_makeSlice_owned (P:=prog) w1 w1.heap.size 55 40 i0 _ 2 underlying55 hi hz0 hz1 .i64 .i64 T.live.length (by omega) (by rw[hz2];omega) (by unfold maxLen;omega) (Nat.le_refl _)
 gi_wp2_with fail
 refine⟨trivial,(callsIn_wide.2 ((Aa HE) _)).mono ?_⟩
 rintro e w2 ⟨rfl,rfl⟩
 have hms:=hm2.size
 have hbm:Below w1.heap.size w1 wm:=⟨hm2.os,hm2.tape,hm2.output,hm2.size,fun k hk=>hm2.block k hk (by simp)⟩
 have b3:Boxed (wm.alloc (.cells #[.slice (some ⟨w1.heap.size,0,none⟩) 0 T.live.length] 55)) wm.heap.size 55 (.slice (some ⟨w1.heap.size,0,none⟩) 0 T.live.length):=Boxed.new wm 55 _
 have bn:Boxed ((wm.alloc (.cells #[.slice (some ⟨w1.heap.size,0,none⟩) 0 T.live.length] 55)).alloc (.cells #[.pointer (some ⟨T.t,0,none⟩)] 119)) (wm.heap.size+1) 119 (.pointer (some ⟨T.t,0,none⟩)):=by
  have:=Boxed.new (wm.alloc (.cells #[.slice (some ⟨w1.heap.size,0,none⟩) 0 T.live.length] 55)) 119 (.pointer (some ⟨T.t,0,none⟩))
  rwa [World.size_alloc] at this
 have hB0:Below w1.heap.size w1 ((wm.alloc (.cells #[.slice (some ⟨w1.heap.size,0,none⟩) 0 T.live.length] 55)).alloc (.cells #[.pointer (some ⟨T.t,0,none⟩)] 119)):=(hbm.alloc hms _).alloc (by simp;omega) _
 have hT3:=(Aa HT).on hB0
 have hlt3:=(Aa HT).lt
 have HTT:=HT
 clear HL HE
 gi_wp2
 try simp only[World.size_alloc]
 refine wpIn_rangeFunc_ownH (α:=KK×DD) rfl (by omega) (gf:=183) (lb:= #[.pointer (some ⟨wm.heap.size+1,0,none⟩)]) rfl trivial (enters_of func183 (by kernel_rfl) rfl)
  (ZbQ T 3 (by omega) (wm.heap.size+1) w1.heap.size _ hT3 hlast hlt3 (by simp) bn.cell (by simp;omega)) kb_t (kb_b (by simp;omega) (by simp)) (Below.refl _ _) (fun _=>rfl)
  (fun pre W=>(∃v,Boxed W wm.heap.size 55 v/\W.ownsRow w1.heap.size 40 2 v pre.length (Dg (pre.map (·.1)))/\True)/\Boxed W (wm.heap.size+1) 119 (.pointer (some ⟨T.t,0,none⟩))/\Below w1.heap.size w1 W)
  (fun _ _ _=>False)
  (OwnFrom.and (Own.from (holdsRow_own w1.heap.size wm.heap.size 55 40 2 (fun pre:List (KK×DD)=>pre.length) (fun pre=>Dg (pre.map (·.1))) (fun _ _=>True)) _) (OwnFrom.and (Own.from (ZdG _ _ _) _) (ownFrom_below (Nat.le_refl _) (by simp;omega))))
  (fun _ _ _ _ _ hs _ _=>hs)
  ⟨⟨_,b3.alloc _,(hm1.alloc _).alloc _,trivial⟩,bn,hB0⟩
  (fun x a' W=> ∃Bk,a'={tmps:= #[.pointer (some ⟨T.t,0,none⟩),undef, .slice none 0 0, .pointer (some ⟨wm.heap.size,0,none⟩), .pointer (some ⟨Bk,0,none⟩), .pointer (some ⟨T.t,0,none⟩), .int .i64 T.live.length, .slice (some ⟨w1.heap.size,0,none⟩) 0 T.live.length, .pointer (some ⟨T.t,0,none⟩), .func (.func 183) #[] #[.pointer (some ⟨wm.heap.size+1,0,none⟩)],x.1.agg,x.2.agg,undef,undef,undef,undef,undef,undef,undef,undef,undef,undef],defers:= []}/\Holds W Bk x.1.cs)
  (fun x a' _ X Y row hs hg hr=>by
   obtain⟨Bk,h1,h2⟩:=hs
   exact⟨Bk,h1,Zdq h2 (Nat.succ_pos _) hg (fun r e=>(hr r e).2)⟩)
  ?assign ?body ?done ?stop
 case assign=>
  intro l pre x W K hI hK
  simp only[encP]
  obtain⟨p1,p2,p3⟩:=new_var W Ey.cs x.1.cs 40 (Nat.le_refl _) rfl (Nat.succ_pos _)
  obtain⟨X1,hX1⟩: ∃X1,X1=(W.alloc (Obj.cells Ey.cs.toArray 40)).setCells W.heap.size 0 x.1.cs:=⟨_,rfl⟩
  rw[←hX1] at p1 p2 p3
  have HK:=Ab (hK)
  have hg2:W.grownBy X1 none:=Dx p1
  have hI2:Hid _:=Ab hI
  clear hK hI
  have ht:((#[10,11]:Array Tmp).zip #[x.1.agg,x.2.agg]).foldl (fun t x=>t.setIfInBounds x.1 x.2) (#[.pointer (some ⟨T.t,0,none⟩),undef, .slice none 0 0, .pointer (some ⟨wm.heap.size,0,none⟩),undef, .pointer (some ⟨T.t,0,none⟩), .int .i64 T.live.length, .slice (some ⟨w1.heap.size,0,none⟩) 0 T.live.length, .pointer (some ⟨T.t,0,none⟩), .func (.func 183) #[] #[.pointer (some ⟨wm.heap.size+1,0,none⟩)],undef,undef,undef,undef,undef,undef,undef,undef,undef,undef,undef,undef]:Array Value)= #[.pointer (some ⟨T.t,0,none⟩),undef, .slice none 0 0, .pointer (some ⟨wm.heap.size,0,none⟩),undef, .pointer (some ⟨T.t,0,none⟩), .int .i64 T.live.length, .slice (some ⟨w1.heap.size,0,none⟩) 0 T.live.length, .pointer (some ⟨T.t,0,none⟩), .func (.func 183) #[] #[.pointer (some ⟨wm.heap.size+1,0,none⟩)],x.1.agg,x.2.agg,undef,undef,undef,undef,undef,undef,undef,undef,undef,undef]:=by simp
  rw[ht]
  refine wpIn_region_lit ?_
  refine inV (fun _=>trivial) (by rfl) (by intro c h;cases h) (ZbM rfl) ?_
  simp only[nn]
  refine inS (fun _=>trivial) (by rfl) (by intro c h;cases h) (Er (t:=40) (vs:=x.1.cs) rfl rfl rfl rfl (by simp[KK.cs,Value.oneCell']) Gw (Holds.new W Ey.cs 40) (Nat.le_refl _)) ?_
  rw[←hX1]
  simp only[nn]
  refine wpListIn_nil ?_
  obtain⟨⟨v,hv,hrow, -⟩,hbn,hB⟩:=Aa hI2
  have hsz:=hB.size
  exact(Aa HK) _ X1 (KeepsFrom.of_grownBy hg2 (fun j e=>by cases e)) ⟨p1.mono hsz,p1.block _ hbn.lt⟩ ⟨⟨v,hv.kept hg2 (by simp),Pi hrow (fun g hg=>p1.block g (World.ownsRow.lt hrow g hg).2),trivial⟩,hbn.kept hg2 (by simp),hB.trans (p1.mono hsz)⟩ ⟨W.heap.size,rfl,p2⟩
 case body=>
  rintro l pre x a' W hl2 hloop ⟨⟨v,hv,hrow, -⟩,hbn,hB⟩ ⟨Bk,rfl,hk⟩ hlen
  have Hk:=Ab hk
  have Hv:=Ab hv
  have Hrow:=Ab hrow
  have Hbn:=Ab hbn
  have HB:=Ab hB
  clear hk hv hrow hbn hB hloop
  refine wpIn_block ?_
  refine wpIn_region_lit ?_
  refine inV (fun _=>trivial) (by rfl) (by intro c h;cases h) (Gj (B:=wm.heap.size) (p:=0) (v:=v) 55 isAgg55 rfl rfl (Aa Hv).cell) ?_
  simp only[nn]
  refine inV (fun _=>trivial) (by rfl) (by intro c h;cases h) (Aj (B:=Bk) (p:=0) (cs:=x.1.cs) (vs:=x.1.cs) 40 2 Ga Gw rfl rfl (Aa Hk) rfl rfl) ?_
  simp only[nn]
  refine inV (fun _=>trivial) (by rfl) (by intro c h;cases h) (Ye (t:=55) (e:=40) (v:= .agg x.1.cs.toArray) (cs:=x.1.cs) rfl rfl underlying55 Mu (by decide) rfl rfl (by decide)) ?_
  simp only[nn]
  refine appI (v:=v) (B:=W.heap.size) (m:=1) (c:=1) (fun _=>trivial) (by rfl) rfl rfl rfl underlying55 Mu rfl (by decide) ((Aa Hrow).alloc _) (Holds.new W x.1.cs 40) rfl (by simp[KK.cs,Value.oneCell']) (by omega) (by decide) (by have:=(Aa HB).size;simp;omega) ?_
  intro A c' w4 ho4 hg4
  have HA:=Ab ((Aa Hv).appended (by decide) (Aa Hrow) (Aa HB).size hms ho4 hg4)
  have HG:=Ab hg4
  clear ho4 hg4
  simp only[nn]
  refine inS (fun _=>trivial) (by rfl) (by intro c h;cases h) (Er (t:=55) (b:=wm.heap.size) (p:=0) (cs:= [v]) (vs:= [.slice A (pre.length+1) c']) rfl rfl rfl rfl (by simp[Value.oneCell']) siz64 (Za8 (Aa HA).1) (Nat.le_refl _)) ?_
  simp only[nn]
  refine wpListIn_nil ?_
  obtain⟨h1,h2,h3,h4,h5⟩:=Aa HA
  have hbn:=Aa Hbn
  have hB:=Aa HB
  have hne:some (wm.heap.size+1)≠v.ownBlock:=hbn.not_row (by decide) (Aa Hrow)
  have eb:(w4.setCell ⟨wm.heap.size,0,none⟩ (Value.slice A (pre.length+1) c')).heap[wm.heap.size+1]? =W.heap[wm.heap.size+1]? :=by
   rw[Below.heap_setCell _ _ _ _ (by show wm.heap.size+1≠wm.heap.size;omega),(Aa HG).block _ (by have:=hbn.lt;simp;omega) hne,Below.heap_alloc _ _ _ hbn.lt]
  refine⟨h4.from _,⟨h5,eb⟩,⟨⟨_,h2, ?_,trivial⟩,eb.trans hbn,hB.trans h5⟩⟩
  rw[List.map_append,Ow,show Dg (List.map (fun z:KK×DD=>z.1) [x])=x.1.cs from Zdt x.1,List.length_append]
  exact h3
 case done=>
  rintro D ys W hD rfl ⟨⟨v,hv,hrow, -⟩,hbn,hB⟩ hK
  have hc:=hv.cell
  have hO:OwnK W w1.heap.size v (T.live.map (·.k)):=by
   unfold OwnK
   have e1:(T.live.map RR.pr).map (fun z:KK×DD=>z.1)=T.live.map (·.k):=by rw[List.map_map];rfl
   rw[e1] at hrow
   rw[List.length_map] at hrow ⊢
   exact hrow
  have hall:(T.live.map (·.k)).all goodK=true:=by
   rw[List.all_map,List.all_eq_true]
   intro r hr
   exact(Aa HT).good r hr
  have HC:=Ab (order8 v (T.live.map (·.k)) W (Qc hU (Pf hU) hB) (hP.on hB) hO.reads (by rw[List.length_map];exact hl))
  clear hO
  gi_wp2_with fail
  refine⟨trivial,(callsIn_wide.2 (Aa HC)).mono ?_⟩
  rintro e W5 ⟨v5,n5,rfl,hb5,hcase⟩
  rcases hcase with ⟨-,rfl,hO5⟩|⟨hbad, -, -⟩
  rotate_left
  ·rw[hall] at hbad;cases hbad
  obtain⟨L5,hL5⟩: ∃L5,L5=La (T.live.map (·.k)):=⟨_,rfl⟩
  replace hO5:OwnK W5 W.heap.size v5 L5:=hL5▸hO5
  have HL5:=Ab hL5
  clear hL5
  obtain⟨A5,c5,rfl⟩:=Eg hO5
  have hv5:Boxed W5 wm.heap.size 55 v:=(hb5.block _ hv.lt).trans hv
  have hc5:=hv5.cell
  have hf5:=hv5.frozen
  have hDl:D<W.heap.size:=(Array.getElem?_eq_some_iff.1 hK).1
  have hD2:wm.heap.size+1+1<=D:=by simpa using hD
  have HO5:=Ab hO5
  clear hO5 hall
  gi_wp2
  have hK5:(W5.setCell ⟨wm.heap.size,0,none⟩ (.slice A5 L5.length c5)).heap[D]? =some (.deferred (some [])):=by
   rw[Below.heap_setCell _ _ _ _ (by show D≠wm.heap.size;omega),hb5.block D hDl]
   exact hK
  have hO5:=Aa HO5
  have hBs:=hB.size
  refine⟨by simp, .inl ⟨_,_,rfl,run_takeDeferred hK5, ?_⟩⟩
  refine⟨_,results_tmp rfl _ _ _,_,rfl, ?_,((hB.trans (hb5.mono hBs)).setCell (p:=⟨wm.heap.size,0,none⟩) (by exact hms) _).trans (belowK_b (w:=w1) (Nat.le_refl _) _ D _ _ (by omega) hK5 rfl rfl)⟩
  rw[←Aa HL5]
  refine(hO5.mono hBs).block (fun g hg=> ?_)
  have hg2:=(hO5.own g hg)
  have e1: ∀(Z:World) (o':Obj),(Z.putObj D o').heap[g]? =Z.heap[g]? :=fun Z o'=>by
   show (Z.heap.setIfInBounds D o')[g]? =_
   rw[Array.getElem?_setIfInBounds_ne (by omega)]
  rw[e1,Below.heap_setCell _ _ _ _ (by have:=hv.lt;show g≠wm.heap.size;omega)]
 case stop=>
  rintro D c pre W _ _ h _
  exact h.elim
end
section
open Go Go.Proofs Go.Maps Go.RowKit Tryz
theorem Xq {w:World} {base e s n g c:Nat} {xs:List Value} (h:w.ownsRow base e s (.slice (some ⟨g,0,none⟩) n c) n xs):Holds w g xs:=by
 refine⟨fun j=> ?_,fun j u hu=> ?_⟩
 ·rcases h.2 with ⟨h1, -⟩|⟨g',cap,cur,h1,h2,h3, -⟩
  ·cases h1
  ·cases h1
   simp[World.frozen?,h3]
 ·have:=h.cells (g:=g) rfl j u hu
  rwa [Addr.add_mid] at this
theorem TT.find_none {T:TT} {k:KK} (h:T.find k=none): ∀r∈T.live,r.k≠k:=by
 intro r hr
 have:=List.find?_eq_none.1 h r hr
 simpa using this
theorem Rt {α β:Type} {f:α->β} {l:List α} (h:l.Pairwise (fun a b=>f a≠f b)) {a b:α} (ha:a∈l) (hb:b∈l) (he:f a=f b):a=b:=by
 induction l with
 |nil=>cases ha
 |cons x l ih=>
  obtain⟨h1,h2⟩:=List.pairwise_cons.1 h
  rcases List.mem_cons.1 ha with e1|ha'
  ·rcases List.mem_cons.1 hb with e2|hb'
   ·rw[e1,e2]
   ·rw[e1] at he
    exact absurd he (h1 b hb')
  ·rcases List.mem_cons.1 hb with e2|hb'
   ·rw[e2] at he
    exact absurd he.symm (h1 a ha')
   ·exact ih h2 ha' hb'
theorem Zao {w:World} {base e s n:Nat} {A:Option Addr} {c:Nat} {xs:List Value} (h:w.ownsRow base e s (.slice A n c) n xs) (hn:0<n): ∃g,A=some ⟨g,0,none⟩/\base<=g/\g<w.heap.size:=by
 rcases h.2 with ⟨h1,h2⟩|⟨g,cap,cur,h1,h2⟩
 ·omega
 ·have hA:A=some ⟨g,0,none⟩:=by injection h1
  subst hA
  have:=World.ownsRow.lt h g rfl
  exact⟨g,rfl,this.1,this.2⟩
theorem stx {ops:Array Oper} {rest:List Oper} {Q:Exit->Act->World->Prop} {w:World} {a:Act} {o:Oper} {t:TypeId} {b p:Nat} {cs vs:List Value} {v:Value} {x y:Operand} (hw:Region.wanted o (yielded ops a.tmps)=true) (ho:o.op= .store t x y) (hx:a.eval x= .pointer (some ⟨b,p,none⟩)) (hy:a.eval y=v) (hv:v.cells.toList=vs) (h1: ∀u∈vs,u.oneCell'=true) (hi:(prog.info? t).map (·.size)=some vs.length) (hH:Holds w b cs) (hp:p+vs.length<=cs.length)
  (h:wpList prog ops Q rest (a.put o.dst undef) (w.setCells b p vs)):wpList prog ops Q (o::rest) a w:=by
 refine BigFrame.wpList_want hw fun K hK=> ?_
 have hP:=hK _ _ h
 unfold Oper.wp
 rw[Er ho hx hy hv h1 hi hH hp]
 exact hP
theorem Kj {k:KK} (h:goodK k=true):OkK k:=by
 have h1:=Nn h
 have h2:=goodK_n h
 refine⟨by unfold maxLen;omega, ?_⟩
 show (decide (IntKind.i64.min<=k.n) && decide (k.n<=IntKind.i64.max))=true
 have e1:IntKind.i64.min= -9223372036854775808:=by decide
 have e2:IntKind.i64.max=9223372036854775807:=by decide
 rw[e1,e2,Bool.and_eq_true]
 exact⟨decide_eq_true (by omega),decide_eq_true (by omega)⟩
def Ul (r:RR):RR:=⟨r.b,Ey,Al,r.n,true⟩
theorem ZaY {o:Oper} {a:Act} {w:World} {x c:Operand} {n:Nat} (ho:o.op= .build 191 #[(1,x),(2,c)]) (hx:a.eval x= .int .u64 (n:Nat)) (hc:a.eval c= .bool true):(execOp a.eval o).run prog w= .ok (.value (.agg (RR.mk 0 Ey Al n true).cs.toArray)) w:=by
 have e:(Instr.build 191 #[(1, .int .u64 (n:Nat)),(2, .bool true)]).run prog w= .ok (.agg (RR.mk 0 Ey Al n true).cs.toArray) w:=by kernel_rfl
 unfold execOp
 simp only[ho,List.map_toArray,List.map_cons,List.map_nil,hx,hc]
 simp[e]
theorem siz77 (r:RR):(prog.info? 191).map (·.size)=some r.cs.length:=by rw[Ds];kernel_rfl
theorem one77 (r:RR): ∀u∈r.cs,u.oneCell'=true:=by simp[RR.cs,KK.cs,DD.cs,VV.cs,Value.oneCell']
theorem leave37 (r:RR) (w:World) (h:Holds w r.b r.cs):Calls prog 175 #[.pointer (some ⟨r.b,0,none⟩)] w fun e w'=>e= .returned (.tuple #[])/\Holds w' r.b (Ul r).cs/\Fr w w' [r.b]:=by
 have HH:=Ab h
 clear h
 go_enter func175,ntmps175
 go_wp2_with (first|go_skip|((with_reducible show wpList ..);first|(refine rd rfl (Ad 101 isAgg101 rfl rfl (Aa HH) rfl) ?_)|(refine rd rfl (ZaY rfl rfl rfl) ?_)|((with_reducible apply stx (t:=191) (b:=r.b) (p:=0) (cs:=r.cs) (vs:=(RR.mk 0 Ey Al r.n true).cs) (v:= .agg (RR.mk 0 Ey Al r.n true).cs.toArray));(case hw=>rfl);(case ho=>rfl);(case hx=>rfl);(case hy=>rfl);(case hv=>exact rfl);(case h1=>exact one77 _);(case hi=>exact siz77 _);(case hH=>exact Aa HH);(case hp=>exact(by simp[Ds]));simp only[nn])))
 go_end0
 refine⟨rfl, ?_,Fr.setCells _ _ _ _⟩
 have:=(Aa HH).put 0 (RR.mk 0 Ey Al r.n true).cs (by simp[Ds])
 exact this
theorem Kz {w:World} {base base' e s n:Nat} {v:Value} {xs:List Value} (h:w.ownsRow base e s v n xs) (hb:base'<=base):w.ownsRow base' e s v n xs:=by
 obtain⟨h1,h2⟩:=h
 refine⟨h1, ?_⟩
 rcases h2 with h2|⟨g,cap,cur,rfl,h3,h4⟩
 ·exact .inl h2
 ·exact .inr ⟨g,cap,cur,rfl,Nat.le_trans hb h3,h4⟩
def TT.packed (T:TT) (m:Nat) (rv:Value):TT:=⟨T.t,m,rv,T.live,T.last⟩
theorem TT.packed_live (T:TT) (m:Nat) (rv:Value):(T.packed m rv).live=T.live:=by
 unfold TT.packed TT.live
 simp
theorem TT.packed_find (T:TT) (m:Nat) (rv:Value) (k:KK):(T.packed m rv).find k=T.find k:=by
 unfold TT.find
 rw[TT.packed_live]
theorem TT.live_rows {T:TT} (h:T.rows.length - T.live.length=0):T.live=T.rows:=by
 have h1:=T.live_le
 unfold TT.live at *
 rw[List.filter_eq_self]
 exact List.length_filter_eq_length_iff.1 (by omega)
structure TApart (T:TT):Prop where
 tm:T.t≠T.m
 tv: ∀g,T.rv.ownBlock=some g->g≠T.t/\g≠T.m/\g ∉ T.rows.map (·.b)
 tr:T.t ∉ T.rows.map (·.b)
 mr:T.m ∉ T.rows.map (·.b)
 rr:(T.rows.map (·.b)).Nodup
theorem TT.apart {T:TT} (h:T.blocks.Nodup):TApart T:=by
 unfold TT.blocks at h
 rw[List.nodup_cons,List.nodup_cons,List.nodup_append] at h
 obtain⟨h1,h2,h3,h4,h5⟩:=h
 simp only[List.mem_cons,List.mem_append,not_or] at h1 h2
 refine⟨h1.1,fun g hg=>⟨fun e=>h1.2.1 (by rw[hg,e];simp),fun e=>h2.1 (by rw[hg,e];simp),fun hm=>h5 g (by rw[hg];simp) g hm rfl⟩,h1.2.2,h2.2,h4⟩
theorem TApart.nodup {T:TT} (h:TApart T):T.blocks.Nodup:=by
 unfold TT.blocks
 rw[List.nodup_cons,List.nodup_cons,List.nodup_append]
 refine⟨?_, ?_, ?_,h.rr, ?_⟩
 ·simp only[List.mem_cons,List.mem_append,not_or]
  refine⟨h.tm,fun hm=> ?_,h.tr⟩
  exact(h.tv T.t (by simpa using hm)).1 rfl
 ·simp only[List.mem_append,not_or]
  exact⟨fun hm=>(h.tv T.m (by simpa using hm)).2.1 rfl,h.mr⟩
 ·cases T.rv.ownBlock<;>simp
 ·intro a ha b hb e
  subst e
  exact(h.tv a (by simpa using ha)).2.2 hb
theorem Lb (T:TT): ∀b∈T.live.map (·.b),b∈T.rows.map (·.b):=by
 intro b hb
 obtain⟨r,hr,rfl⟩:=List.mem_map.1 hb
 exact List.mem_map.2 ⟨r,(List.mem_filter.1 hr).1,rfl⟩
theorem TApart.packed {T:TT} (h:TApart T) {m:Nat} {rv:Value} (hm:m=T.m∨m ∉ T.blocks) (hv: ∀g,rv.ownBlock=some g->(T.rv.ownBlock=some g∨g ∉ T.blocks)/\g≠m):TApart (T.packed m rv):=by
 have hmt:T.t≠m:=by
  rcases hm with rfl|hm
  ·exact h.tm
  ·intro e;exact hm (by rw[←e];simp[TT.blocks])
 have hrb: ∀b∈T.rows.map (·.b),b∈T.blocks:=fun b hb=>by
  unfold TT.blocks
  simp only[List.mem_cons,List.mem_append]
  exact .inr (.inr (.inr hb))
 refine⟨hmt,fun g hg=>⟨?_,(hv g hg).2, ?_⟩,fun hx=>h.tr (Lb T _ hx),fun hx=> ?_, ?_⟩
 ·intro e
  rcases (hv g hg).1 with h1|h1
  ·exact(h.tv g h1).1 e
  ·exact h1 (by rw[e];simp[TT.blocks,TT.packed])
 ·intro hx
  rcases (hv g hg).1 with h1|h1
  ·exact(h.tv g h1).2.2 (Lb T _ hx)
  ·exact h1 (hrb _ (Lb T _ hx))
 ·rcases hm with rfl|hm
  ·exact h.mr (Lb T _ hx)
  ·exact hm (hrb _ (Lb T _ hx))
 ·exact List.Sublist.nodup (List.Sublist.map _ List.filter_sublist) h.rr
theorem TT.Is.pack {T:TT} {w X:World} {m:Nat} {rv:Value} (hT:T.Is w) (htab:Holds X T.t [.map (some m),rv, .int .u64 T.last]) (hmap:MapIs X m T.last T.live.length (fun k=>(T.find k).map (·.b))) (hown:OwnP X rv (T.live.map (·.b))) (hrows: ∀r∈T.live,Holds X r.b r.cs)
  (hm:m=T.m∨m ∉ T.blocks) (hv: ∀g,rv.ownBlock=some g->(T.rv.ownBlock=some g∨g ∉ T.blocks)/\g≠m):(T.packed m rv).Is X:=by
 have hf:(fun k=>((T.packed m rv).find k).map (·.b))=(fun k=>(T.find k).map (·.b)):=by
  funext k
  rw[TT.packed_find]
 refine⟨htab, ?_,hown,hrows,((TT.apart hT.nd).packed hm hv).nodup,hT.rise.sublist List.filter_sublist,fun r hr=>hT.num r (List.mem_filter.1 hr).1, ?_, ?_⟩
 ·rw[hf,TT.packed_live]
  exact hmap
 ·rw[TT.packed_live]
  exact hT.keys
 ·rw[TT.packed_live]
  exact hT.good
theorem mk_any {ops:Array Oper} {rest:List Oper} {Q:Exit->Act->World->Prop} {w:World} {a:Act} {o:Oper} {t e:TypeId} {size bytes:Nat} {z:Value} {c x:Operand} (n:Nat) (hw:Region.wanted o (yielded ops a.tmps)=true) (ho:o.op= .makeSlice t c x) (hc:a.eval c= .int .i64 0) (hx:a.eval x= .int .i64 (n:Nat))
  (ht:prog.underlying t=some (.slice e)) (hi:(prog.info? e).map (fun i=>(i.zero,i.size,i.bytes))=some (some z,size,bytes)) (hn:n<=100000) (hs:size<=100) (hby:bytes<=10000)
  (h: ∀wm,wm.ownsRow w.heap.size e size (.slice (some ⟨w.heap.size,0,none⟩) 0 n) 0 []->Below w.heap.size w wm->wpList prog ops Q rest (a.put o.dst (.slice (some ⟨w.heap.size,0,none⟩) 0 n)) wm):wpList prog ops Q (o::rest) a w:=by
 obtain⟨i0,hi,hz0,hz1,hz2⟩:=info_parts hi
 obtain⟨wm,hrun,hm1,hm2⟩:=run_makeSlice_owned (P:=prog) w w.heap.size t e i0 _ size ht hi hz0 hz1 .i64 .i64 n (Nat.le_trans (Nat.mul_le_mul hn hs) (by decide)) (by rw[hz2];exact Nat.le_trans (Nat.mul_le_mul hby hn) (by decide)) (by unfold maxLen;omega) (Nat.le_refl _)
 refine BigFrame.wpList_want hw fun K hK=> ?_
 have hP:=hK _ _ (h wm hm1 ⟨hm2.os,hm2.tape,hm2.output,hm2.size,fun k hk=>hm2.block k hk (by simp)⟩)
 unfold Oper.wp execOp
 simp only[ho,hc,hx]
 simp[hrun]
 exact hP
theorem Zan (l:List RR) (j:Nat) (hj:j<l.length):(Ly (l.map (·.b)))[0+j]? =some (.pointer (some ⟨l[j].b,0,none⟩)):=by
 simp[Ly,hj]
theorem ptrs_one (l:List RR) (r:RR):Ly ((l++ [r]).map (·.b))=Ly (l.map (·.b))++ [.pointer (some ⟨r.b,0,none⟩)]:=by
 simp[Ly]
def El (l:List RR):List RR:=l.filter (fun r=> !r.gone)
theorem Vm {l:List RR} {j:Nat} (hj:j<l.length):El (l.take (j+1))=if l[j].gone then El (l.take j) else El (l.take j)++ [l[j]]:=by
 unfold El
 rw[List.take_succ_eq_append_getElem hj,List.filter_append]
 cases h:l[j].gone<;>simp[h]
def CG (w1 wr:World) (v:Value) (l:List RR):Prop:=wr.ownsRow w1.heap.size 188 1 v l.length (Ly (l.map (·.b)))/\Below w1.heap.size w1 wr
theorem Yq (l:List RR):(El l).length<=l.length:=List.length_filter_le _ _
theorem Za1 (T:TT) (w:World) (hT:T.Is w) (hl:T.last<100000):Calls prog 182 #[.pointer (some ⟨T.t,0,none⟩)] w fun e w'=>e= .returned (.tuple #[])/\ ∃rv,(T.packed T.m rv).Is w'/\Fr w w' [T.t]/\(∀g,rv.ownBlock=some g->T.rv.ownBlock=some g∨w.heap.size<=g):=by
 have hlen:=hT.len
 have C38:=Ab (gaps38 T w hT (by omega))
 by_cases h0:T.rows.length - T.live.length=0
 ·rw[h0] at C38
  have HT:=Ab hT
  have he:T.packed T.m T.rv=T:=by
   unfold TT.packed
   rw[TT.live_rows h0]
  clear hT hlen hl h0
  go_enter func182,ntmps182
  go_wp2_with fail
  refine(Aa C38).mono ?_
  rintro _ w1 ⟨rfl,hb⟩
  have HB:=Ab hb
  clear hb
  go_wp2
  refine bodyPost_ret (results_none rfl _ _ _) rfl ?_
  exact⟨rfl,T.rv,by rw[he];exact(Aa HT).on (Aa HB),Fr.of_below (Aa HB) _,fun g hg=> .inl hg⟩
 ·have hpos:0<T.rows.length:=by omega
  obtain⟨A,c,hrv⟩:=Eg hT.own
  have hown: ∀X,T.Is X->X.ownsRow 0 188 1 (.slice A (T.rows.map (·.b)).length c) (T.rows.map (·.b)).length (Ly (T.rows.map (·.b))):=fun X hX=>hrv▸hX.own
  obtain⟨g,rfl, -, -⟩:=Zao (hown w hT) (by simpa using hpos)
  obtain⟨n,hn⟩: ∃n,n=T.rows.length:=⟨_,rfl⟩
  obtain⟨gp,hgp⟩: ∃gp,gp=T.rows.length - T.live.length:=⟨_,rfl⟩
  rw[←hgp] at C38
  have hgz: ¬((gp:Nat):Int)=0:=by omega
  have HV:Hid (∀X,T.Is X->Holds X T.t [.map (some T.m), .slice (some ⟨g,0,none⟩) n c, .int .u64 T.last]):=Ab (fun X hX=>by
   have:=hX.tab
   unfold TT.cs at this
   rw[hrv,List.length_map,←hn] at this
   exact this)
  have HG:Hid (∀X,T.Is X->Holds X g (Ly (T.rows.map (·.b)))):=Ab (fun X hX=>Xq (hown X hX))
  have hlv:T.live.length<=100000:=by have:=T.live_le;omega
  have HRV:=Ab hrv
  have HT:=Ab hT
  have HLT:=Ab hT.lt
  have HAP:=Ab (TT.apart hT.nd)
  have hn1:n<=100000:=by omega
  have Hn:=Ab hn
  obtain⟨lv,hlv'⟩: ∃lv,lv=T.live.length:=⟨_,rfl⟩
  have HML:Hid (∀X,T.Is X->MapIs X T.m T.last lv (fun k=>(T.find k).map (·.b))):=Ab (fun X hX=>hlv'▸hX.map)
  have hlv2:lv<=100000:=by omega
  clear hT hlen hl h0 hpos hrv hown hn hgp hlv hlv'
  go_enter func182,ntmps182
  go_wp2_with fail
  refine(Aa C38).mono ?_
  rintro _ w1 ⟨rfl,hb⟩
  have HB:=Ab hb
  have HT1:=Ab ((Aa HT).on hb)
  clear hb
  obtain⟨w2,hw2⟩: ∃w2,w2=w1:=⟨_,rfl⟩
  replace HT:=HT1
  go_wp2_with (first|go_skip|((with_reducible show wpList ..);first|(refine rd rfl (Ad 163 isAgg163 rfl rfl ((Aa HV) _ (Aa HT)) rfl) ?_)|(refine rd rfl (ZbK rfl rfl ((Aa HML) _ (Aa HT))) ?_)|(refine rd rfl (Ad 164 isAgg164 rfl rfl ((Aa HV) _ (Aa HT)) rfl) ?_)|((refine mk_any (t:=164) (e:=188) (size:=1) (bytes:=8) (z:= .pointer none) lv (by rfl) rfl rfl rfl underlying164 Ui hlv2 (by decide) (by decide) ?_);intro wm hO hb;replace HT:=Ab ((Aa HT).on hb);have HC:Hid (CG w1 wm (.slice (some ⟨w1.heap.size,0,none⟩) 0 lv) []):=Ab ⟨hO,hb⟩;clear hO hb;simp only[nn])))
  clear hgz C38
  go_loopg [2,4,19] n (fun gm s2 s4 s19 wr=> ∃j:Nat,s19= .int .i64 j/\j<=n/\n - j<=gm/\Hid (CG w1 wr s2 (El (T.rows.take j))))
  case atStart=>exact⟨0,rfl,by omega,by omega,HC⟩
  case round=>
   obtain⟨j,rfl,hj,hg,HR⟩:=hrel
   have HTr:=Ab ((Aa HT1).on (Aa HR).2)
   by_cases hjl:j<n
   ·have hjz:(j:Int)<n:=by omega
    have hjr:j<T.rows.length:=by have:=Aa Hn;omega
    obtain⟨r,hr⟩: ∃r,r=T.rows[j]:=⟨_,rfl⟩
    have HP:Hid ((Ly (T.rows.map (·.b)))[0+j]? =some (.pointer (some ⟨r.b,0,none⟩))):=Ab (by rw[hr];exact Zan T.rows j hjr)
    have HRr:=Ab ((Aa HTr).rows r (hr▸List.getElem_mem hjr))
    have HST:=Ab (Vm hjr)
    rw[←hr] at HST
    cases hgn:r.gone with
    |true=>
     have HR2:Hid (Holds wr r.b (r.k.cs++(r.d.cs++ [.int .u64 r.n, .bool true]))):=Ab (hgn▸Aa HRr)
     replace HR:Hid (CG w1 wr u2 (El (T.rows.take (j+1)))):=Ab (by rw[Aa HST,hgn];exact Aa HR)
     clear hr hgn HRr HST
     go_wp2_with (first|go_skip|((with_reducible show wpList ..);first|(refine rd rfl (Nq (off:=0) j rfl rfl rfl hjl) ?_)|(refine rd rfl (Ad 188 isAgg188 rfl rfl ((Aa HG) _ (Aa HTr)) (Aa HP)) ?_)|(refine rd rfl (Ad 4 isAgg4 rfl rfl (Aa HR2) rfl) ?_)))
     go_roundg (n - (j+1))
     case measure=>omega
     case rel=>exact⟨j+1,by go_num,by omega,Nat.le_refl _,HR⟩
    |false=>
     have HR2:Hid (Holds wr r.b (r.k.cs++(r.d.cs++ [.int .u64 r.n, .bool false]))):=Ab (hgn▸Aa HRr)
     have HST2:Hid (El (T.rows.take (j+1))=El (T.rows.take j)++ [r]):=Ab (by rw[Aa HST,hgn];rfl)
     have hsl:Hid ((El (T.rows.take j)).length+1<=4000000):=Ab (by have h1:=Yq (T.rows.take j);rw[List.length_take] at h1;omega)
     clear hr hgn HRr HST
     go_wp2_with (first|go_skip|((with_reducible show wpList ..);first|(refine rd rfl (Nq (off:=0) j rfl rfl rfl hjl) ?_)|(refine rd rfl (Ad 188 isAgg188 rfl rfl ((Aa HG) _ (Aa HTr)) (Aa HP)) ?_)|(refine rd rfl (Ad 4 isAgg4 rfl rfl (Aa HR2) rfl) ?_)|((refine Yi (t:=164) (e:=188) (size:=1) (bytes:=8) (z:= .pointer none) (cs:= [.pointer (some ⟨r.b,0,none⟩)]) (by rfl) rfl rfl underlying164 Ui (by decide) rfl rfl (by decide) (Hq.nil wr []) ?_);intro w5 B5 hB5 L5 hb5;have LL:=Ab L5;have HR5:Hid (CG w1 w5 u2 (El (T.rows.take j))):=Ab ⟨Pi (Aa HR).1 (fun b hb=>hb5.block b (World.ownsRow.lt (Aa HR).1 b hb).2),(Aa HR).2.trans (hb5.mono (Aa HR).2.size)⟩;clear L5 hb5 hB5;simp only[nn])|((refine Nt (v:=u2) rfl rfl rfl rfl underlying164 Ui rfl (by decide) (Aa HR5).1 ((Aa LL).get 0 rfl) rfl (by simp[Value.oneCell']) (Aa hsl) (by decide) (Aa HR5).2.size ?_);intro A6 c6 w6 ho6 hg6 hf6;have HR6:Hid (CG w1 w6 (.slice A6 ((El (T.rows.take j)).length+1) c6) (El (T.rows.take (j+1)))):=Ab ⟨by rw[Aa HST2,ptrs_one,List.length_append];exact ho6,(((Fr.of_below (Aa HR5).2 []).trans (Fr.grown hg6) (fun b hb=>Or.inr (World.ownsRow.lt (Aa HR5).1 b (by simpa using hb)).1)).below)⟩;clear ho6 hg6 hf6;simp only[nn])))
     go_roundg (n - (j+1))
     case measure=>omega
     case rel=>exact⟨j+1,by go_num,by omega,Nat.le_refl _,HR6⟩
   ·have hjz: ¬(j:Int)<n:=by omega
    have hst:El (T.rows.take j)=T.live:=by
     have:j=T.rows.length:=by have:=Aa Hn;omega
     rw[this,List.take_length]
     rfl
    rw[hst] at HR
    obtain⟨A6,c6,rfl⟩:=Eg (Aa HR).1
    have HBr:=Ab ((Aa HB).trans ((Aa HR).2.mono (Aa HB).size))
    have hts:T.t<w.heap.size:=(Aa HLT) T.t (by simp[TT.blocks])
    have hws:=(Aa HB).size
    clear hst
    go_wp2_with (first|go_skip|((with_reducible show wpList ..);first|((with_reducible apply stx (t:=164) (b:=T.t) (p:=1) (cs:= [.map (some T.m), .slice (some ⟨g,0,none⟩) n c, .int .u64 T.last]) (vs:= [.slice A6 T.live.length c6]) (v:= .slice A6 T.live.length c6));(case hw=>rfl);(case ho=>rfl);(case hx=>rfl);(case hy=>rfl);(case hv=>exact rfl);(case h1=>exact(by simp[Value.oneCell']));(case hi=>exact siz70);(case hH=>exact(Aa HV) _ (Aa HTr));(case hp=>exact(by simp));simp only[nn])))
    go_end0
    refine⟨rfl, .slice A6 T.live.length c6, ?_,(Fr.of_below (Aa HBr) [T.t]).trans (Fr.setCells _ _ _ _) (fun b hb=> .inl hb),fun b hb=> .inr ?_⟩
    ·have hap:=Aa HAP
     have hne: ∀b,b≠T.t->(wr.setCells T.t 1 [.slice A6 T.live.length c6]).heap[b]? =wr.heap[b]? :=fun b hb=>Eo _ _ _ _ _ hb
     refine TT.Is.pack (Aa HT1) ((((Aa HV) _ (Aa HTr)).put 1 [.slice A6 T.live.length c6] (by simp))) ((Aa HTr).map.block (hne _ hap.tm.symm)) ?_ (fun r hr=>((Aa HTr).rows r (List.mem_filter.1 hr).1).block (hne _ (fun e=>hap.tr (e▸List.mem_map.2 ⟨r,(List.mem_filter.1 hr).1,rfl⟩)))) (.inl rfl) (fun b hb=> ?_)
     ·have h1:=Pi (w':=wr.setCells T.t 1 [.slice A6 T.live.length c6]) (Aa HR).1 (fun b hb=>hne b (by have:=(World.ownsRow.lt (Aa HR).1 b hb).1;omega))
      unfold OwnP
      rw[List.length_map]
      exact Kz h1 (Nat.zero_le _)
     ·have h2:=(World.ownsRow.lt (Aa HR).1 b hb).1
      refine⟨.inr (fun hm=> ?_),fun e=> ?_⟩
      ·have:=(Aa HLT) b hm
       omega
      ·have:=(Aa HLT) T.m (by simp[TT.blocks])
       omega
    ·have h2:=(World.ownsRow.lt (Aa HR).1 b hb).1
     omega
theorem run_mm (n:Nat) (w:World):(Instr.makeMap 163 (some (.int .i64 (n:Nat)))).run prog w= .ok (.map (some w.heap.size)) (w.alloc (.map #[] 0)):=by
 simp[Instr.makeMap,go_sem]
theorem siz69:(prog.info? 163).map (·.size)=some 1:=by kernel_rfl
theorem ex_mm {o:Oper} {a:Act} {w:World} {x:Operand} {n:Nat} (ho:o.op= .makeMap 163 (some x)) (hx:a.eval x= .int .i64 (n:Nat)):(execOp a.eval o).run prog w= .ok (.value (.map (some w.heap.size))) (w.alloc (.map #[] 0)):=by
 unfold execOp
 simp only[ho,hx,Option.map_some]
 simp[run_mm]
theorem rdw {ops:Array Oper} {rest:List Oper} {Q:Exit->Act->World->Prop} {w X:World} {a:Act} {o:Oper} {v:Value} (hw:Region.wanted o (yielded ops a.tmps)=true) (hy:(execOp a.eval o).run prog w= .ok (.value v) X) (h:wpList prog ops Q rest (a.put o.dst v) X):wpList prog ops Q (o::rest) a w:=by
 refine BigFrame.wpList_want hw fun K hK=> ?_
 have hP:=hK _ _ h
 unfold Oper.wp
 rw[hy]
 exact hP
def fnd (l:List RR) (k:KK):Option Nat:=(l.find? (fun r=>decide (r.k=k))).map (·.b)
theorem fnd_take {l:List RR} (hp:l.Pairwise (fun a b=>a.k≠b.k)) {j:Nat} (hj:j<l.length):fnd (l.take j) l[j].k=none/\Mw (fnd (l.take j)) l[j].k (some l[j].b)=fnd (l.take (j+1)):=by
 have hno: ∀r∈l.take j,r.k≠l[j].k:=by
  intro r hr
  obtain⟨i,hi,rfl⟩:=List.mem_take_iff_getElem.1 hr
  exact List.pairwise_iff_getElem.1 hp i j (by omega) hj (by omega)
 have h0:(l.take j).find? (fun r=>decide (r.k=l[j].k))=none:=by
  rw[List.find?_eq_none]
  intro r hr
  simpa using hno r hr
 refine⟨by unfold fnd;rw[h0];rfl, ?_⟩
 funext q
 unfold fnd
 rw[List.take_succ_eq_append_getElem hj,List.find?_append]
 by_cases e:q=l[j].k
 ·subst e
  rw[h0,Ky]
  simp
 ·rw[Js e]
  have e2:([l[j]]:List RR).find? (fun r=>decide (r.k=q))=none:=by
   simp
   exact fun h=>e h.symm
  rw[e2]
  simp
structure CPk (T:TT) (w1 wr:World) (A:Option Addr) (n c M j:Nat):Prop where
 tab:Holds wr T.t [.map (some M), .slice A n c, .int .u64 T.last]
 map:MapIs wr M j j (fnd (T.live.take j))
 fr:Fr w1 wr [T.t]
theorem ZdB (T:TT) (w:World) (hT:T.Is w) (hl:T.last<100000):Calls prog 178 #[.pointer (some ⟨T.t,0,none⟩)] w fun e w'=>e= .returned (.tuple #[])/\ ∃m rv,(T.packed m rv).Is w'/\Fr w w' [T.t]/\(∀b∈(T.packed m rv).blocks,b∈T.blocks∨w.heap.size<=b):=by
 have C39:=Ab (Za1 T w hT hl)
 have HT:=Ab hT
 have hlen:=hT.len
 have hlv:=T.live_le
 obtain⟨n,hn⟩: ∃n,n=T.live.length:=⟨_,rfl⟩
 have hn1:n<=100000:=by omega
 have hnl:Hid (n<=T.last):=Ab (by omega)
 have Hn:=Ab hn
 clear hT hlen hlv hl hn
 go_enter func178,ntmps178
 go_wp2_with fail
 refine(Aa C39).mono ?_
 clear C39
 rintro _ w1 ⟨rfl,rv,hT1,hf1,hb1⟩
 obtain⟨A,c,hrv⟩:=Eg hT1.own
 replace hrv:rv= .slice A n c:=by
  rw[Aa Hn]
  simpa [TT.packed] using hrv
 subst hrv
 have HV:Hid (Holds w1 T.t [.map (some T.m), .slice A n c, .int .u64 T.last]):=Ab hT1.tab
 have HT1:=Ab hT1
 have HF1:=Ab hf1
 have HB1:=Ab hb1
 have HAP:=Ab (TT.apart hT1.nd)
 have htl:Hid (T.t<w1.heap.size):=Ab (hT1.lt T.t (by simp[TT.blocks,TT.packed]))
 clear hT1 hf1 hb1
 go_wp2_with (first|go_skip|((with_reducible show wpList ..);first|(refine rd rfl (Ad 164 isAgg164 rfl rfl (Aa HV) rfl) ?_)|((refine rdw (by rfl) (ex_mm rfl rfl) ?_);obtain⟨M,hM⟩: ∃M,M=w1.heap.size:=⟨_,rfl⟩;obtain⟨w2,hw2⟩: ∃w2,w2=w1.alloc (.map #[] 0):=⟨_,rfl⟩;have HM:=Ab hM;have hb2:Below w1.heap.size w1 w2:=(by rw[hw2];exact(Below.refl _ _).alloc (Nat.le_refl _) _);have HMP:Hid (MapIs w2 M 0 0 (fnd (T.live.take 0))):=Ab (by rw[hw2,hM];exact MapIs.made w1);rw[←hw2,←hM];replace HV:=Ab ((Aa HV).block (hb2.block T.t (Aa htl)));have HB2:=Ab hb2;clear hw2 hM hb2;simp only[nn])|((with_reducible apply stx (t:=163) (b:=T.t) (p:=0) (cs:= [.map (some T.m), .slice A n c, .int .u64 T.last]) (vs:= [.map (some M)]) (v:= .map (some M)));(case hw=>rfl);(case ho=>rfl);(case hx=>rfl);(case hy=>rfl);(case hv=>exact rfl);(case h1=>exact(by simp[Value.oneCell']));(case hi=>exact siz69);(case hH=>exact Aa HV);(case hp=>exact(by simp));(obtain⟨w3,hw3⟩: ∃w3,w3=w2.setCells T.t 0 [.map (some M)]:=⟨_,rfl⟩);(have HC:Hid (CPk T w1 w3 A n c M 0):=Ab ⟨(by rw[hw3];exact(Aa HV).put 0 [.map (some M)] (by simp)),(by rw[hw3];exact(Aa HMP).block (Eo _ _ _ _ _ (by have h1:=Aa HM;have h2:=Aa htl;omega))),(by rw[hw3];exact(Fr.of_below (Aa HB2) [T.t]).trans (Fr.setCells _ _ _ _) (fun b hb=> .inl hb))⟩);rw[←hw3];replace HV:=Ab (Aa HC).tab;clear hw3;simp only[nn])))
 clear HV HMP HB2
 go_loopg [3,20] n (fun gm s3 s20 wr=> ∃j:Nat,s20= .int .i64 j/\j<=n/\n - j<=gm/\Hid (CPk T w1 wr A n c M j))
 case atStart=>exact⟨0,rfl,by omega,by omega,HC⟩
 case round=>
  obtain⟨j,rfl,hj,hg,HR⟩:=hrel
  by_cases hjl:j<n
  ·have hjz:(j:Int)<n:=by omega
   have hjr:j<T.live.length:=by have:=Aa Hn;omega
   have hown:w1.ownsRow 0 188 1 (.slice A (T.live.map (·.b)).length c) (T.live.map (·.b)).length (Ly (T.live.map (·.b))):=by
    have h1:=(Aa HT1).own
    have e:=Aa Hn
    unfold OwnP TT.packed at h1
    simp only at h1
    rw[List.length_map,←e] at h1 ⊢
    exact h1
   obtain⟨g,rfl, -,hgl⟩:=Zao hown (by simp;omega)
   have hgt:g≠T.t:=((Aa HAP).tv g rfl).1
   have HG:Hid (Holds wr g (Ly (T.live.map (·.b)))):=Ab ((Xq hown).block ((Aa HR).fr.block g hgl (by simpa using hgt)))
   obtain⟨r,hr⟩: ∃r,r=T.live[j]:=⟨_,rfl⟩
   have hrm:r∈T.live:=hr▸List.getElem_mem hjr
   have HP:Hid ((Ly (T.live.map (·.b)))[0+j]? =some (.pointer (some ⟨r.b,0,none⟩))):=Ab (by rw[hr];exact Zan T.live j hjr)
   have hrt:r.b≠T.t:=fun e=>(Aa HAP).tr (e▸List.mem_map.2 ⟨r,hrm,rfl⟩)
   have hrl:=((Aa HT1).rows r hrm).lt (by simp[Ds])
   have HRr:Hid (Holds wr r.b r.cs):=Ab (((Aa HT1).rows r hrm).block ((Aa HR).fr.block r.b hrl (by simpa using hrt)))
   have HOK:=Ab (Kj ((Aa HT).good r hrm))
   have HFN:=Ab (fnd_take (Aa HT).keys hjr)
   rw[←hr] at HFN
   have HMr:Hid (T.t≠M/\r.b≠M):=Ab ⟨by have h1:=Aa HM;have h2:=Aa htl;omega,by have h1:=Aa HM;omega⟩
   have hjM:Hid (j<maxLen):=Ab (by unfold maxLen;omega)
   clear hr hrm hrt hrl hown hgt hgl
   go_wp2_with (first|go_skip|((with_reducible show wpList ..);first|(refine rd rfl (Nq (off:=0) j rfl rfl rfl hjl) ?_)|(refine rd rfl (Ad 188 isAgg188 rfl rfl (Aa HG) (Aa HP)) ?_)))
   refine wp_region_held_drew (P:=prog) (S:=fun X=>Holds X T.t [.map (some M), .slice (some ⟨g,0,none⟩) n c, .int .u64 T.last]/\Holds X r.b r.cs) (by kernel_rfl) ⟨(Aa HR).tab.block rfl,(Aa HRr).block rfl⟩ (fun hS0=> ?_)
   refine y0 0 (some 24) (.pointer (some ⟨T.t,0,none⟩)) rfl hS0 ?_
   refine y0 1 (some 25) (.pointer (some ⟨T.t,0,none⟩)) rfl hS0 ?_
   refine y0 2 (some 26) (.pointer (some ⟨T.t,0,none⟩)) rfl hS0 ?_
   refine y1 3 (some 27) (.map (some M)) rfl (fun X hX=>Ad 163 isAgg163 rfl rfl (hX.1) rfl) hS0 ?_
   refine y0 4 (some 28) (.pointer (some ⟨r.b,0,none⟩)) rfl hS0 ?_
   refine y0 5 (some 29) (.pointer (some ⟨r.b,0,none⟩)) rfl hS0 ?_
   refine y0 6 (some 30) (.pointer (some ⟨r.b,0,none⟩)) rfl hS0 ?_
   refine y0 7 (some 31) (.pointer (some ⟨r.b,0,none⟩)) rfl hS0 ?_
   refine y1 8 (some 32) (r.k.agg) rfl (fun X hX=>Aj (vs:=r.k.cs) 40 2 Ga Gw rfl rfl (hX.2) rfl rfl) hS0 ?_
   refine y0 9 (some 33) (.pointer (some ⟨r.b,0,none⟩)) rfl hS0 ?_
   refine wpAnyH_ready (rs:= [10]) (by kernel_rfl) (by simp) (gupd (r:=r.b) 10 rfl (by kernel_rfl) (by kernel_rfl) rfl rfl rfl rfl ((Aa HR).map.block rfl) (Aa HOK) (Aa hjM) (fun X hX=>⟨hS0.1.block (hX.block T.t (hS0.1.lt (by simp)) (by simpa using (Aa HMr).1)),hS0.2.block (hX.block r.b (hS0.2.lt (by simp[Ds])) (by simpa using (Aa HMr).2))⟩) ?_ AllReadyH.nil)
   intro X hM6 hX6
   have HR6:Hid (CPk T w1 X (some ⟨g,0,none⟩) n c M (j+1)):=Ab ⟨hS0.1.block (hX6.block T.t (hS0.1.lt (by simp)) (by simpa using (Aa HMr).1)),(by have h1:=hM6;rw[(Aa HFN).1,(Aa HFN).2] at h1;exact h1),((Aa HR).fr.drew.trans hX6 (fun b hb=>Or.inr (by have h1:=Aa HM;obtain rfl:b=M:=(by simpa using hb);omega)))⟩
   replace hS0:=And.intro (hS0.1.block (hX6.block T.t (hS0.1.lt (by simp)) (by simpa using (Aa HMr).1))) (hS0.2.block (hX6.block r.b (hS0.2.lt (by simp[Ds])) (by simpa using (Aa HMr).2)))
   clear hM6 hX6
   simp only[nn]
   refine wpAnyH_done (by kernel_rfl) ?_ _
   try simp only[nn]
   clear hS0
   go_wp2
   go_roundg (n - (j+1))
   case measure=>omega
   case rel=>exact⟨j+1,by go_num,by omega,Nat.le_refl _,HR6⟩
  ·have hjz: ¬(j:Int)<n:=by omega
   have hjn:j=n:=by omega
   subst hjn
   go_wp2
   go_end0
   have hC:=Aa HR
   have hTT:=Aa HT1
   have hap:=Aa HAP
   have e:=Aa Hn
   have htk:T.live.take j=T.live:=by rw[e,List.take_length]
   have hmp:=hC.map
   rw[htk] at hmp
   have hM:=Aa HM
   have hs1:=(Aa HF1).size
   have hlt:=(Aa HT).lt
   have hrv: ∀b,(Value.slice A j c).ownBlock=some b->(T.rv.ownBlock=some b∨b ∉ T.blocks)/\b≠M:=fun b hb=>by
    refine⟨((Aa HB1) b hb).imp id (fun h1 hm=>by have:=hlt b hm;omega), ?_⟩
    have:=World.ownsRow.lt hTT.own b hb
    omega
   refine⟨rfl,M, .slice A j c,TT.Is.pack (Aa HT) hC.tab ?_ ?_ (fun r hr=> ?_) (.inr (fun hm=>by have:=hlt M hm;omega)) hrv, ?_, ?_⟩
   ·have h1:=hmp.mono (Aa hnl)
    rw[←e]
    exact h1
   ·exact hTT.own.block (fun b hb=>hC.fr.block b (World.ownsRow.lt hTT.own b hb).2 (fun hm=>(hap.tv b hb).1 (by show b=T.t;simpa using hm)))
   ·have h2:=hTT.rows r hr
    exact h2.block (hC.fr.block r.b (h2.lt (by simp[Ds])) (by simpa using fun e:r.b=T.t=>hap.tr (e▸List.mem_map.2 ⟨r,hr,rfl⟩)))
   ·exact(Aa HF1).trans hC.fr (fun b hb=> .inl hb)
   ·intro b hb
    simp only[TT.blocks,TT.packed,List.mem_cons,List.mem_append] at hb ⊢
    rcases hb with h1|h1|h1|h1
    ·exact .inl (.inl h1)
    ·exact .inr (by omega)
    ·rcases (Aa HB1) b (by simpa using h1) with h2|h2
     ·exact .inl (.inr (.inr (.inl (by rw[h2];simp))))
     ·exact .inr h2
    ·exact .inl (.inr (.inr (.inr (Lb T b h1))))
def Om (b:Nat) (q:RR):RR:=if q.b=b then Ul q else q
theorem Ol (b:Nat) (q:RR):(Om b q).b=q.b/\(Om b q).n=q.n:=by
 unfold Om Ul
 split<;>exact⟨rfl,rfl⟩
def TT.left (T:TT) (b:Nat):TT:={T with rows:=T.rows.map (Om b)}
theorem TT.left_live (T:TT) (b:Nat):(T.left b).live=T.live.filter (fun q=>decide (q.b≠b)):=by
 unfold TT.left TT.live
 simp only
 induction T.rows with
 |nil=>rfl
 |cons q l ih=>
  simp only[List.map_cons,List.filter_cons]
  by_cases h:q.b=b
  ·rw[show Om b q=Ul q from if_pos h]
   cases hg:q.gone
   ·rw[if_neg (by simp[Ul]),if_pos (by simp),List.filter_cons,if_neg (by simp[h])]
    exact ih
   ·rw[if_neg (by simp[Ul]),if_neg (by simp)]
    exact ih
  ·rw[show Om b q=q from if_neg h]
   cases hg:q.gone
   ·rw[if_pos (by simp),if_pos (by simp),List.filter_cons,if_pos (by simp[h]),ih]
   ·rw[if_neg (by simp),if_neg (by simp)]
    exact ih
theorem Ur {α:Type} {p q:α->Bool}: ∀{l:List α},(∀x∈l,p x=q x)->l.find? p=l.find? q
 | [],_=>rfl
 |x::l,h=>by
  rw[List.find?_cons,List.find?_cons,h x (by simp),Ur (fun y hy=>h y (by simp[hy]))]
theorem Xi {T:TT} (h:TApart T):T.rows.Pairwise (fun a b=>a.b≠b.b):=by
 have:=h.rr
 unfold List.Nodup at this
 rwa [List.pairwise_map] at this
theorem Mb {T:TT} {r:RR} (h:r∈T.live):r∈T.rows:=(List.mem_filter.1 h).1
theorem Yj {T:TT} {w:World} (hT:T.Is w) {r q:RR} (hr:r∈T.live) (hq:q∈T.live):q.b=r.b↔q.k=r.k:=by
 constructor
 ·intro e
  rw[Rt (f:=RR.b) (Xi (TT.apart hT.nd)) (Mb hq) (Mb hr) e]
 ·intro e
  rw[Rt (f:=RR.k) hT.keys hq hr e]
theorem TT.left_live' {T:TT} {w:World} (hT:T.Is w) {r:RR} (hr:r∈T.live):(T.left r.b).live=T.live.filter (fun q=>decide (q.k≠r.k)):=by
 rw[TT.left_live]
 apply List.filter_congr
 intro q hq
 have:=Yj hT hr hq
 simp[this]
theorem TT.left_find {T:TT} {w:World} (hT:T.Is w) {r:RR} (hr:r∈T.live):(fun q=>((T.left r.b).find q).map (·.b))=Mw (fun q=>(T.find q).map (·.b)) r.k none:=by
 funext q
 unfold TT.find
 rw[TT.left_live' hT hr,List.find?_filter]
 by_cases e:q=r.k
 ·subst e
  rw[Ky]
  have:T.live.find? (fun a=>decide (decide (a.k≠r.k)=true/\decide (a.k=r.k)=true))=none:=by
   rw[List.find?_eq_none]
   intro x _
   simp
  rw[this]
  rfl
 ·rw[Js e]
  congr 1
  apply Ur
  intro x _
  by_cases e2:x.k=q
  ·have:x.k≠r.k:=fun e3=>e (e2▸e3)
   simp[e2]
   exact fun e3=>e e3
  ·simp[e2]
theorem TT.left_len {T:TT} {w:World} (hT:T.Is w) {r:RR} (hr:r∈T.live):(T.left r.b).live.length=T.live.length - 1:=by
 rw[TT.left_live' hT hr]
 obtain⟨a,b,e⟩:=List.append_of_mem hr
 have hp:=hT.keys
 rw[e] at hp ⊢
 have h1:=List.pairwise_append.1 hp
 have h2:=List.pairwise_cons.1 h1.2.1
 have ha:a.filter (fun q=>decide (q.k≠r.k))=a:=by
  rw[List.filter_eq_self]
  intro x hx
  simpa using h1.2.2 x hx r (by simp)
 have hb:b.filter (fun q=>decide (q.k≠r.k))=b:=by
  rw[List.filter_eq_self]
  intro x hx
  simpa using (h2.1 x hx).symm
 rw[List.filter_append,List.filter_cons,ha,hb]
 simp
theorem TT.Is.left {T:TT} {w X:World} {r:RR} (hT:T.Is w) (hr:r∈T.live) (htab:Holds X T.t T.cs) (hmap:MapIs X T.m T.last (T.live.length - 1) (Mw (fun k=>(T.find k).map (·.b)) r.k none)) (hown:OwnP X T.rv (T.rows.map (·.b))) (hrest: ∀q∈T.rows,q.b≠r.b->Holds X q.b q.cs) (hg:Holds X r.b (Ul r).cs):(T.left r.b).Is X:=by
 have hbs:(T.left r.b).rows.map (·.b)=T.rows.map (·.b):=by
  unfold TT.left
  simp only[List.map_map]
  apply List.map_congr_left
  intro q _
  exact(Ol r.b q).1
 have hsub: ∀q∈(T.left r.b).live,q∈T.live:=fun q hq=>by
  rw[TT.left_live] at hq
  exact(List.mem_filter.1 hq).1
 refine⟨htab, ?_, ?_, ?_, ?_, ?_, ?_, ?_,fun q hq=>hT.good q (hsub q hq)⟩
 ·rw[TT.left_find hT hr,TT.left_len hT hr]
  exact hmap
 ·rw[hbs]
  exact hown
 ·intro q hq
  obtain⟨p,hp,rfl⟩:=List.mem_map.1 hq
  by_cases e:p.b=r.b
  ·have:=Rt (f:=RR.b) (Xi (TT.apart hT.nd)) hp (Mb hr) e
   subst this
   unfold Om
   rw[if_pos rfl]
   exact hg
  ·unfold Om
   rw[if_neg e]
   exact hrest p hp e
 ·have h:=hT.nd
  unfold TT.blocks at h ⊢
  rw[hbs]
  exact h
 ·show (T.rows.map (Om r.b)).Pairwise _
  rw[List.pairwise_map]
  refine hT.rise.imp ?_
  intro a b h
  rw[(Ol r.b a).2,(Ol r.b b).2]
  exact h
 ·intro q hq
  obtain⟨p,hp,rfl⟩:=List.mem_map.1 hq
  rw[(Ol r.b p).2]
  exact hT.num p hp
 ·rw[TT.left_live]
  exact hT.keys.sublist List.filter_sublist
theorem TT.left_blocks (T:TT) (b:Nat):(T.left b).blocks=T.blocks:=by
 unfold TT.blocks TT.left
 simp only[List.map_map]
 congr 3
 apply List.map_congr_left
 intro q _
 exact(Ol b q).1
theorem gdel {md:Region.Mode} {ops:Array Oper} {Q:Exit->Act->World->Prop} {S:World->Prop} {w:World} {fuel:Nat} {listed:Array Bool} {a:Act} {o:Oper} (i:Nat) {m x:Operand} {b n sz:Nat} {F:KK->Option Nat} {k:KK} {rs:List Nat} (hi:ops[i]? =some o) (hd:o.dst=none) (hw:Region.wanted o (yielded ops a.tmps)=true)
  (ho:o.op= .call {callee:= .builtin .delete,args:= #[m,x],argTypes:= #[163,40]}) (hm:a.eval m= .map (some b)) (hx:a.eval x=k.agg) (h:MapIs w b n sz F) (hk:OkK k) (hon: ∀X,Fr w X [b]->S X)
  (hh: ∀X,MapIs X b n (if (F k).isSome then sz - 1 else sz) (Mw F k none)->Fr w X [b]->wpAnyH prog md ops Q S fuel (listed.setIfInBounds i true) (a.put none (.tuple #[])) X) (hs:AllReadyH prog md ops Q S fuel listed a w rs):AllReadyH prog md ops Q S fuel listed a w (i::rs):=by
 obtain⟨X,h1,h2,h3⟩:=h.drop hk o.type
 refine ZbI i none hi hd hw (V:= .tuple #[]) (X:=X) ?_ (hon X (Fr.grown h3.grown)) (hh X h2 (Fr.grown h3.grown)) hs
 simp[execOp,ho,resolve,invoke,builtin,hm,hx,h1,Result.andThen]
theorem Uz (T:TT) (k:KK) (w:World) (hT:T.Is w) (hk:OkK k) (hl:T.last<100000):Calls prog 168 #[.pointer (some ⟨T.t,0,none⟩),k.agg] w fun e w'=>e= .returned (.bool (T.find k).isSome)/\ ∃T':TT,T'.Is w'/\T'.t=T.t/\T'.last=T.last/\Fr w w' T.blocks/\(∀b∈T'.blocks,b∈T.blocks∨w.heap.size<=b)/\T'.live=T.live.filter (fun q=>decide (q.k≠k)):=by
 cases hf:T.find k with
 |none=>
  have hlv:T.live.filter (fun q=>decide (q.k≠k))=T.live:=by
   rw[List.filter_eq_self]
   intro q hq
   simpa using TT.find_none hf q hq
  rw[hlv]
  clear hlv
  have HT:=Ab (hT.on ((Below.refl _ _).alloc (Nat.le_refl _) (Obj.cells k.cs.toArray 40)))
  have LL:=Ab ((Hq.nil w T.blocks).new k.cs 40 (Nat.succ_pos _))
  have HL:=Ab hT.lt
  clear hT
  rw[show k.agg= .agg k.cs.toArray from rfl]
  go_enter func168,ntmps168
  go_wp2
  refine wp_region_held_drew (P:=prog) (S:=fun X=>T.Is X/\Hq w X T.blocks [(w.heap.size,k.cs)]) (by kernel_rfl) ⟨(Aa HT).drew,(Aa LL).drew⟩ (fun hS0=> ?_)
  refine y0 0 (some 8) (.pointer (some ⟨T.t,0,none⟩)) rfl hS0 ?_
  refine y0 1 (some 9) (.pointer (some ⟨T.t,0,none⟩)) rfl hS0 ?_
  refine y0 2 (some 10) (.pointer (some ⟨T.t,0,none⟩)) rfl hS0 ?_
  refine y1 3 (some 11) (.map (some T.m)) rfl (fun X hX=>Ad 163 isAgg163 rfl rfl (hX.1.tab) rfl) hS0 ?_
  refine y1 4 (some 12) (k.agg) rfl (fun X hX=>Aj (vs:=k.cs) 40 2 Ga Gw rfl rfl (hX.2.get 0 rfl) rfl rfl) hS0 ?_
  refine y1 5 (some 13) (.tuple #[pv (none), .bool false]) rfl (fun X hX=>Lq (r:=none) rfl rfl rfl hX.1.map hk (by rw[hf];rfl)) hS0 ?_
  refine y0 6 (some 7) (.tuple #[pv (none), .bool false]) rfl hS0 ?_
  refine y0 7 (some 14) (pv (none)) rfl hS0 ?_
  refine y0 9 (some 5) (pv (none)) rfl hS0 ?_
  refine y0 8 (some 15) (.bool false) rfl hS0 ?_
  refine y0 10 (some 6) (.bool false) rfl hS0 ?_
  refine wpAnyH_done (by kernel_rfl) ?_ _
  try simp only[nn]
  replace HT:=Ab hS0.1
  replace LL:=Ab hS0.2
  clear hS0
  go_wp2
  go_ret
  exact⟨rfl,T,Aa HT,rfl,rfl,(Aa LL).fr,fun b hb=> .inl hb,rfl⟩
 |some r=>
  have hrl:r∈T.live:=List.mem_of_find?_eq_some hf
  obtain⟨-,hgn,hrk⟩:=TT.find_mem hf
  have HRL:=Ab (And.intro hrl hrk)
  have H2:Hid (∀X,(T.left r.b).Is X->Calls prog 176 #[.pointer (some ⟨T.t,0,none⟩)] X fun e w'=>e= .returned (.int .i64 (((T.left r.b).rows.length - (T.left r.b).live.length:Nat):Int))/\Below X.heap.size X w'):=Ab (fun X hX=>gaps38 (T.left r.b) X hX (by have:=hX.len;have e:(T.left r.b).last=T.last:=rfl;omega))
  have H3:Hid (∀X,(T.left r.b).Is X->Calls prog 177 #[.pointer (some ⟨T.t,0,none⟩)] X fun e w'=>e= .returned (.int .i64 (T.left r.b).live.length)/\w'=X):=Ab (fun X hX=>len30 (T.left r.b) X hX)
  have H4:Hid (∀X,(T.left r.b).Is X->Calls prog 178 #[.pointer (some ⟨T.t,0,none⟩)] X fun e w'=>e= .returned (.tuple #[])/\ ∃m rv,((T.left r.b).packed m rv).Is w'/\Fr X w' [T.t]/\(∀b∈((T.left r.b).packed m rv).blocks,b∈(T.left r.b).blocks∨X.heap.size<=b)):=Ab (fun X hX=>ZdB (T.left r.b) X hX hl)
  have HLV:Hid ((T.left r.b).live=T.live.filter (fun q=>decide (q.k≠k))):=Ab (by rw[TT.left_live' hT hrl,hrk])
  have HAP:=Ab (TT.apart hT.nd)
  have hk2:=Ab hk
  have hf2:=Ab hf
  clear hrl hrk hgn hl
  have HT:=Ab (hT.on ((Below.refl _ _).alloc (Nat.le_refl _) (Obj.cells k.cs.toArray 40)))
  have LL:=Ab ((Hq.nil w T.blocks).new k.cs 40 (Nat.succ_pos _))
  have HL:=Ab hT.lt
  clear hT
  rw[show k.agg= .agg k.cs.toArray from rfl]
  go_enter func168,ntmps168
  go_wp2
  refine wp_region_held_drew (P:=prog) (S:=fun X=>T.Is X/\Hq w X T.blocks [(w.heap.size,k.cs)]) (by kernel_rfl) ⟨(Aa HT).drew,(Aa LL).drew⟩ (fun hS0=> ?_)
  refine y0 0 (some 8) (.pointer (some ⟨T.t,0,none⟩)) rfl hS0 ?_
  refine y0 1 (some 9) (.pointer (some ⟨T.t,0,none⟩)) rfl hS0 ?_
  refine y0 2 (some 10) (.pointer (some ⟨T.t,0,none⟩)) rfl hS0 ?_
  refine y1 3 (some 11) (.map (some T.m)) rfl (fun X hX=>Ad 163 isAgg163 rfl rfl (hX.1.tab) rfl) hS0 ?_
  refine y1 4 (some 12) (k.agg) rfl (fun X hX=>Aj (vs:=k.cs) 40 2 Ga Gw rfl rfl (hX.2.get 0 rfl) rfl rfl) hS0 ?_
  refine y1 5 (some 13) (.tuple #[pv (some r.b), .bool true]) rfl (fun X hX=>Lq (r:=some r.b) rfl rfl rfl hX.1.map hk (by rw[hf];rfl)) hS0 ?_
  refine y0 6 (some 7) (.tuple #[pv (some r.b), .bool true]) rfl hS0 ?_
  refine y0 7 (some 14) (pv (some r.b)) rfl hS0 ?_
  refine y0 9 (some 5) (pv (some r.b)) rfl hS0 ?_
  refine y0 8 (some 15) (.bool true) rfl hS0 ?_
  refine y0 10 (some 6) (.bool true) rfl hS0 ?_
  refine wpAnyH_done (by kernel_rfl) ?_ _
  try simp only[nn]
  replace HT:=Ab hS0.1
  replace LL:=Ab hS0.2
  clear hS0
  unfold pv
  go_wp2
  refine wp_region_held_drew (P:=prog) (S:=fun X=>Holds X T.t T.cs/\Hq w X T.blocks [(w.heap.size,k.cs)]) (by kernel_rfl) ⟨(Aa HT).tab.block rfl,(Aa LL).drew⟩ (fun hS0=> ?_)
  refine y0 0 (some 18) (.pointer (some ⟨T.t,0,none⟩)) rfl hS0 ?_
  refine y0 1 (some 19) (.pointer (some ⟨T.t,0,none⟩)) rfl hS0 ?_
  refine y0 2 (some 20) (.pointer (some ⟨T.t,0,none⟩)) rfl hS0 ?_
  refine y1 3 (some 21) (.map (some T.m)) rfl (fun X hX=>Ad 163 isAgg163 rfl rfl (hX.1) rfl) hS0 ?_
  refine y1 4 (some 22) (k.agg) rfl (fun X hX=>Aj (vs:=k.cs) 40 2 Ga Gw rfl rfl (hX.2.get 0 rfl) rfl rfl) hS0 ?_
  have hmt:T.t ∉ [T.m]:=by simpa using (Aa HAP).tm
  have hkm:w.heap.size≠T.m:=by have:=(Aa HL) T.m (by simp[TT.blocks]);omega
  have hmb: ∀b∈ [T.m],b∈T.blocks∨w.heap.size<=b:=fun b hb=> .inl (by obtain rfl:b=T.m:=(by simpa using hb);simp[TT.blocks])
  refine wpAnyH_ready (rs:= [5]) (by kernel_rfl) (by simp) (gdel 5 rfl (by kernel_rfl) (by kernel_rfl) rfl rfl rfl (Aa HT).drew.map (Aa hk2) (fun X hX=>⟨hS0.1.block (hX.block T.t (hS0.1.lt (by simp[TT.cs])) hmt),hS0.2.step hX hmb (fun q hq=>by obtain rfl:q=(w.heap.size,k.cs):=(by simpa using hq);simpa using hkm)⟩) ?_ AllReadyH.nil)
  intro X hM hX
  have hTd:=(Aa HT).drew
  have hLX:=hS0.2.step hX hmb (fun q hq=>by obtain rfl:q=(w.heap.size,k.cs):=(by simpa using hq);simpa using hkm)
  have hm3:MapIs X T.m T.last (T.live.length - 1) (Mw (fun q=>(T.find q).map (·.b)) k none):=by
   have e:=Aa hf2
   have:=hM
   simp only[e,Option.map_some,Option.isSome_some,if_true] at this
   exact this
  have hap:=Aa HAP
  have hbl: ∀b,b≠T.m->b<w.heap.size->X.heap[b]? =(World.drew _).heap[b]? :=fun b hb hlt=>hX.block b (by have:=hS0.2.fr.size;omega) (by simpa using hb)
  have HOWN:Hid (OwnP X T.rv (T.rows.map (·.b))):=Ab (hTd.own.block (fun g hg=>hX.block g (World.ownsRow.lt hTd.own g hg).2 (fun hm=>(hap.tv g hg).2.1 (by simpa using hm))))
  have HROW:Hid (∀q∈T.rows,Holds X q.b q.cs):=Ab (fun q hq=>(hTd.rows q hq).block (hX.block q.b ((hTd.rows q hq).lt (by simp[Ds])) (fun hm=>hap.mr (by obtain h1:q.b=T.m:=(by simpa using hm);exact h1▸List.mem_map.2 ⟨q,hq,rfl⟩))))
  have HTAB:Hid (Holds X T.t T.cs):=Ab (hS0.1.block (hX.block T.t (hS0.1.lt (by simp[TT.cs])) hmt))
  have HM3:=Ab hm3
  have hS1:Holds X T.t T.cs/\Hq w X T.blocks [(w.heap.size,k.cs)]:=⟨Aa HTAB,hLX⟩
  replace LL:=Ab hLX
  clear hS0 hM hX hTd hLX hm3 hbl hmt hkm hmb
  simp only[nn]
  refine wpAnyH_done (by kernel_rfl) ?_ _
  try simp only[nn]
  clear hS1
  go_wp2_with fail
  refine(leave37 r X ((Aa HROW) r (Mb (Aa HRL).1))).mono ?_
  rintro _ w3 ⟨rfl,hg3,hf3⟩
  have hrm:r.b∈T.rows.map (·.b):=List.mem_map.2 ⟨r,Mb (Aa HRL).1,rfl⟩
  have hT2:(T.left r.b).Is w3:=by
   have e:=(Aa HRL).2
   refine TT.Is.left (Aa HT) (Aa HRL).1 ((Aa HTAB).block (hf3.block T.t ((Aa HTAB).lt (by simp[TT.cs])) ?_)) ?_ ((Aa HOWN).block (fun g hg=>hf3.block g (World.ownsRow.lt (Aa HOWN) g hg).2 ?_)) (fun q hq hne=>((Aa HROW) q hq).block (hf3.block q.b (((Aa HROW) q hq).lt (by simp[Ds])) (by simpa using hne))) hg3
   ·intro hm
    exact hap.tr (by obtain h1:T.t=r.b:=(by simpa using hm);exact h1▸hrm)
   ·rw[e]
    exact(Aa HM3).block (hf3.block T.m (Aa HM3).lt (fun hm=>hap.mr (by obtain h1:T.m=r.b:=(by simpa using hm);exact h1▸hrm)))
   ·intro hm
    exact(hap.tv g hg).2.2 (by obtain h1:g=r.b:=(by simpa using hm);exact h1▸hrm)
  have HFR:Hid (Fr w w3 T.blocks):=Ab ((Aa LL).fr.trans hf3 (fun b hb=> .inl (by
   obtain rfl:b=r.b:=by simpa using hb
   unfold TT.blocks
   simp only[List.mem_cons,List.mem_append]
   exact .inr (.inr (.inr hrm)))))
  have HT2:=Ab hT2
  clear hT2 hg3 hf3 hrm hap HOWN HROW HTAB HM3 LL
  go_wp2_with fail
  refine((Aa H2) w3 (Aa HT2)).mono ?_
  rintro _ w4 ⟨rfl,hb⟩
  replace HFR:=Ab ((Aa HFR).on hb)
  replace HT2:=Ab ((Aa HT2).on hb)
  clear hb
  go_wp2_with fail
  refine((Aa H3) w4 (Aa HT2)).mono ?_
  rintro _ x4 ⟨rfl,e4⟩
  rw[e4]
  clear e4 x4
  obtain⟨g1,hg1⟩: ∃g1,g1=(T.left r.b).rows.length - (T.left r.b).live.length:=⟨_,rfl⟩
  obtain⟨g2,hg2⟩: ∃g2,g2=(T.left r.b).live.length:=⟨_,rfl⟩
  rw[←hg1,←hg2]
  clear hg1 hg2
  by_cases hgt:g2<g1
  ·have hgz:(g2:Int)<g1:=by omega
   go_wp2_with fail
   refine((Aa H4) w4 (Aa HT2)).mono ?_
   rintro _ w5 ⟨rfl,m,rv,hT5,hf5,hb5⟩
   have HF5:=Ab hf5
   have HT5:=Ab hT5
   have HB5:=Ab hb5
   clear hf5 hT5 hb5
   go_wp2
   go_ret
   refine⟨rfl,_,Aa HT5,rfl,rfl,(Aa HFR).trans (Aa HF5) (fun b hb=> .inl (by obtain rfl:b=T.t:=(by simpa using hb);simp[TT.blocks])),fun b hb=> ?_, ?_⟩
   ·rcases (Aa HB5) b hb with h1|h1
    ·rw[TT.left_blocks] at h1
     exact .inl h1
    ·exact .inr (Nat.le_trans (Aa HFR).size h1)
   ·rw[TT.packed_live]
    exact Aa HLV
  ·have hgz: ¬(g2:Int)<g1:=by omega
   go_wp2
   go_ret
   refine⟨rfl,_,Aa HT2,rfl,rfl,Aa HFR,fun b hb=> ?_,Aa HLV⟩
   rw[TT.left_blocks] at hb
   exact .inl hb
