import Derived.Test.YtieahhciibdnaaaGreatDoorRp
set_option linter.all false
namespace Go.Proofs.YtieahhciibdnaaaGreatDoor
set_option maxRecDepth 100000
set_option maxHeartbeats 0
section
open Go Go.Proofs Go.Maps Go.RowKit FM Tryz
attribute [local go_sem] Bj Ak Ae Aq Dl Dk Bl Af Aj Ad Bj Et Es
section
variable {ops : Array Oper} {rest : List Oper} {Q : Exit → Act → World → Prop} {w w0 : World} {a : Act} {o : Oper} {E : List Nat} {L : List Ob}
theorem mkS0 {t e:TypeId} {size bytes:Nat} {z:Value} {c x:Operand} (n:Nat) (base:Nat) (hw:Region.wanted o (yielded ops a.tmps)=true) (ho:o.op= .makeSlice t c x) (hc:a.eval c= .int .i64 0) (hx:a.eval x= .int .i64 (n:Nat))
  (ht:prog.underlying t=some (.slice e)) (hi:(prog.info? e).map (fun i=>(i.zero,i.size,i.bytes))=some (some z,size,bytes)) (hn:n<=100000) (hs:size<=100) (hby:bytes<=10000) (hL:Sy w0 w E L) (hb:base<=w.heap.size)
  (h: ∀X B,Sy w0 X E (L++ [Do base e size (.slice (some ⟨B,0,none⟩) 0 n) 0 []])->wpList prog ops Q rest (a.put o.dst (.slice (some ⟨B,0,none⟩) 0 n)) X):wpList prog ops Q (o::rest) a w:=by
 obtain⟨i0,hi,hz0,hz1,hz2⟩:=info_parts hi
 obtain⟨wm,hrun,hm1,hm2⟩:=run_makeSlice_owned (P:=prog) w base t e i0 _ size ht hi hz0 hz1 .i64 .i64 n (Nat.le_trans (Nat.mul_le_mul hn hs) (by decide)) (by rw[hz2];exact Nat.le_trans (Nat.mul_le_mul hby hn) (by decide)) (by unfold maxLen;omega) hb
 refine BigFrame.wpList_want hw fun K hK=> ?_
 have hP:=hK _ _ (h wm _ (hL.add (o:=Do base e size (.slice (some ⟨w.heap.size,0,none⟩) 0 n) 0 []) (Lk _ _ _ _ _ _) hm1 ⟨hm2.os,hm2.tape,hm2.output,hm2.size,fun k hk=>hm2.block k hk (by simp)⟩ (fun b hb=>by
  have:b=w.heap.size:=by simpa [Do,Value.ownBlock,eq_comm] using hb
  omega)))
 unfold Oper.wp execOp
 simp only[ho,hc,hx]
 simp[hrun]
 exact hP
theorem appK {s x:Operand} {base:Nat} {l m:List KK} {v u:Value} (hw:Region.wanted o (yielded ops a.tmps)=true) (ho:o.op= .call {callee:= .builtin .append,args:= #[s,x],argTypes:= #[62,62]}) (hs:a.eval s=v) (hx:a.eval x=u) (hown:OwnK w base v l) (hu:Mo w u m) (hcap: ∀c,u= .slice none 0 c->c=0)
  (hn:l.length+m.length<=6000000) (hbase:base<=w.heap.size) (h: ∀v' X,OwnK X base v' (l++m)->w.grownBy X v.ownBlock->wpList prog ops Q rest (a.put o.dst v') X):wpList prog ops Q (o::rest) a w:=
 BigFrame.wpList_want hw fun K hK=>ZaV ho hs hx hown hu hcap hn hbase (fun v' X h1 h2=>hK _ _ (h v' X h1 h2))
end
theorem Vr {X:World} {base n:Nat} {v:Value} {l:List KK} (h:(Do base 45 2 v n (flatK l)).P X) (hn:l.length=n):OwnK X base v l:=by
 subst hn
 exact h
def nmK (l:List BN):List KK:=l.map (fun a=>⟨a.n,0⟩)
def Ez (p:EX):List KK:=nmK p.l++ [Gg]
theorem nmK_step {l:List BN} {i:Nat} {b:BN} (h:l[i]? =some b):flatK (nmK (l.take i))++KK.cs ⟨b.n,0⟩=flatK (nmK (l.take (i+1))):=by
 rw[List.take_add_one,h]
 simp[nmK,flatK]
theorem Qc (l:List BN):(nmK l).length=l.length:=by simp[nmK]
theorem ord_tag:ordK [Gg]= [Gg]:=by kernel_rfl
theorem tab_tag (w:World):TabL [Gg] w:= .inl (by kernel_rfl)
theorem ex_addL {o:Oper} {a:Act} {w:World} {x y:Operand} {n:Nat} (ho:o.op= .binOp .add 3 x y 3) (hx:a.eval x= .int .i64 (n:Nat)) (hy:a.eval y= .int .i64 ((1:Nat):Int)) (hn:n<=1000000):(execOp a.eval o).run prog w= .ok (.value (.int .i64 ((n+1:Nat):Int))) w:=by
 have z:IntKind.i64.wrap ((n:Int)+((1:Nat):Int))=((n+1:Nat):Int):=by rw[IntKind.wrap_i64];omega
 unfold execOp
 simp only[ho,hx,hy]
 simp[go_sem]
 simpa using z
theorem keysM (h:HP) (j:Nat) (q:OB) (p:EX) (w:World) (H:h.Is w) (hT:Tabs w) (N:NS h j q p) (hG:TG q.T) (hla:q.T.last<4000000):Calls prog 229 #[.agg #[], .pointer (some ⟨h.b,0,none⟩), .int .i64 ((j:Int)+1)] w fun e w'=> ∃v,e= .returned (.tuple #[v, .nilIface])/\OwnK w' w.heap.size v (Ez p)/\Below w.heap.size w w':=by
 have SS:=Ab (Sy.nil w [])
 have HX:=H.exs N.he
 obtain⟨A,cA,hlv⟩:=HX.form
 have HB: ∀X,Below w.heap.size w X->Holds X p.b [.slice A p.l.length cA, .map (some p.pb)]:=fun X k=>by
  have:=(HX.on k).box
  unfold ecs at this
  rwa [hlv] at this
 have W0:=N.W
 have hK:(pr q.T).map (·.1)= [Gg]:=by
  obtain⟨d,hp, -⟩:=hG
  rw[hp]
  rfl
 have hK2:q.T.live.map (·.k)= [Gg]:=by
  rw[←hK]
  unfold pr
  rw[List.map_map]
  rfl
 have hlv2:q.T.live.length<=1500000:=by
  have:=congrArg List.length hK2
  simp at this
  omega
 go_enter func229,ntmps229
 go_wp2_with (first|go_skip|((with_reducible show wpList ..);first|((refine Kk (by rfl) rfl rfl (Aa SS) ?_);intro X0 B0 S0;replace SS:=Ab S0;clear S0;simp only[nn])|(refine rd rfl (Ml rfl rfl ((Aa SS).emp 0 rfl)) ?_)|(refine rd rfl (ldE rfl rfl) ?_)|(refine rd rfl (ldA rfl rfl) ?_)))
 have HC:=ord_keys h j q _ (H.on ((Aa SS).fr.below)) N.hl N.hj (hT.on ((Aa SS).fr.below)) (by rw[hK2];exact tab_tag _) hla hlv2
 rw[hK,ord_tag] at HC
 refine HC.mono ?_
 clear HC hK hK2 hlv2
 rintro _ Y1 ⟨v,rfl,hO,hb⟩
 have hcv: ∀c,v= .slice none 0 c->c=0:=fun c e=>by
  rcases hO.form with ⟨-,h0⟩|⟨g,c2,e2, -⟩
  ·cases h0
  ·rw[e2] at e
   cases e
 have hsz0:=(Aa SS).fr.size
 have SS2:Sy w Y1 [] [_,Do w.heap.size 45 2 v 1 (flatK [Gg])]:=(Aa SS).add (o:=Do w.heap.size 45 2 v 1 (flatK [Gg])) (Lk _ _ _ _ _ _) (hO.mono hsz0) hb (fun b hb2=>(hO.own b (by simpa [Do,eq_comm] using hb2)).1)
 have SS:=Ab (Sy.tail SS2)
 clear SS2 hb hsz0
 rcases hO.form with ⟨-,h0⟩|⟨gv,cv,ev, -⟩
 ·cases h0
 clear hO
 subst ev
 go_wp2_with fail
 refine(Zcz h j q p _ (H.on ((Aa SS).fr.below)) N.hl N.hj N.ow).mono ?_
 rintro _ _ ⟨rfl,rfl⟩
 go_wp2_with (first|go_skip|((with_reducible show wpList ..);first|(refine rd rfl (Ag 125 isAgg125 rfl rfl (HB _ ((Aa SS).fr.below)) rfl) ?_)|(refine rd rfl (Bo 125 130 underlying125 rfl rfl) ?_)|(refine rd rfl (Bo 62 45 underlying62 rfl rfl) ?_)|(refine rd rfl (ex_addL rfl rfl rfl (by have:=W0.len;omega)) ?_)|((refine mkS0 (p.l.length+1) w.heap.size (by rfl) rfl rfl (by show Value.int _ _=_;rfl) underlying62 Jj (by have:=W0.len;omega) (by decide) (by decide) (Aa SS) (Aa SS).fr.size ?_);intro X5 B5 S5;replace SS:=Ab S5;clear S5;simp only[nn])))
 go_loopg [12,46] p.l.length (fun gm s12 s46 wr=> ∃(i:Nat) (lv:Value),s46= .int .i64 (i:Nat)/\s12=lv/\i<=p.l.length/\p.l.length - i<=gm/\Hid (Sy w wr [] [Do w.heap.size 45 2 (.slice (some ⟨gv,0,none⟩) [Gg].length cv) 1 (flatK [Gg]),Do w.heap.size 45 2 lv i (flatK (nmK (p.l.take i)))]))
 case atStart=>exact⟨0,_,rfl,rfl,by omega,by omega,SS⟩
 case round=>
  clear SS
  obtain⟨i,lv,rfl,rfl,hil,hgm,SS⟩:=hrel
  by_cases hlt:i<p.l.length
  ·have dlt:decide ((i:Int)<(p.l.length:Int))=true:=decide_eq_true (by omega)
   have hw1:IntKind.i64.wrap ((i:Int)+1)=(i:Int)+1:=by have:=W0.len;rw[IntKind.wrap_i64];omega
   obtain⟨b,hb⟩: ∃b,p.l[i]? =some b:=⟨_,List.getElem?_eq_getElem hlt⟩
   have hbz:b.n.size<=1048576:=W0.sz b (List.mem_of_getElem? hb)
   obtain⟨g,c2,e2, -⟩:=HX.at hb
   rw[hlv] at e2
   cases e2
   obtain⟨q,hq⟩: ∃q,q=0+i * 6:=⟨_,rfl⟩
   have HE: ∀X,Below w.heap.size w X->X.rangeAt g q b.cs:=fun X k=>by
    obtain⟨g2,c3,e3,e4⟩:=(HX.on k).at hb
    rw[hlv] at e3
    cases e3
    rw[hq]
    exact e4
   have HQ:=Ab hq
   have HNB:=Ab (nmK_step hb)
   clear hq hb
   go_wp2_with (first|go_skip|((with_reducible show wpList ..);first|(refine rd rfl (Oz q i rfl rfl rfl hlt (Aa HQ)) ?_)|(refine rd rfl (ZaH rfl rfl (HE _ ((Aa SS).fr.below))) ?_)|(refine zA 130 (Jb.cs) (by rfl) rfl SS ?_;clear SS;intro Xb Bb SS;simp only[nn])|(refine zS (hp:=(show 0+6<=6 by decide)) (b.cs) 2 130 (by rfl) rfl rfl rfl rfl (Ey _) szB SS rfl ?_;clear SS;intro Xz SS;simp only[nn])|(refine z1 9 isAgg9 2 (by rfl) rfl rfl SS rfl rfl ?_;simp only[nn])))
   refine(Gq b.n _ hbz).mono ?_
   rintro _ Y ⟨rfl,hb⟩
   replace SS:=Ab ((Aa SS).on hb)
   clear hb
   go_wp2_with (first|go_skip|((with_reducible show wpList ..);first|(refine rd rfl (ZaJ rfl rfl) ?_)|((refine bsS (t:=62) (e:=45) (size:=2) (bytes:=24) (cs:=KK.cs ⟨b.n,0⟩) (by rfl) rfl rfl underlying62 Jj (by decide) rfl rfl (by decide) (Aa SS) ?_);intro X3 B3 hB3 S3 hb3;clear hB3 hb3;replace SS:=Ab S3;clear S3;simp only[nn])|((refine apS (t:=62) (e:=45) (size:=2) (bytes:=24) 1 3 rfl rfl rfl rfl underlying62 Jj rfl (by decide) (Aa SS) rfl rfl rfl (oneK _) (by have:=W0.len;omega) (by decide) (Aa SS).fr.size ?_);intro A4 c4 X4 S4;replace SS:=Ab S4;clear S4;simp only[nn])))
   have S9:=Sy.left (L:= [_,_]) (M:= [_,_]) (Aa SS)
   rw[Aa HNB] at S9
   clear SS HE
   have SS:=Ab S9
   clear S9
   go_roundg (p.l.length - (i+1))
   case measure=>omega
   case rel=>exact⟨i+1,_,by go_num,rfl,by omega,by omega,SS⟩
  ·obtain rfl:i=p.l.length:=by omega
   have S9:=Aa SS
   have h1:=S9.get 1 rfl
   rw[List.take_length] at h1
   have hO1:=Vr h1 (Qc p.l)
   have hO2:=Vr (l:= [Gg]) (S9.get 0 rfl) rfl
   clear h1
   have hsz:=S9.fr.size
   have hfr:=S9.fr
   clear S9 SS hlt hil
   go_wp2_with (first|go_skip|((with_reducible show wpList ..);first|((refine appK (by rfl) rfl rfl rfl hO1 hO2.reads hcv (by rw[Qc];have:=W0.len;simp;omega) hsz ?_);intro v5 X5 h5 h6;simp only[nn])))
   go_ret2
   exact⟨v5,rfl,h5,(hfr.trans (Fr.grown h6) (fun b hb=> .inr (hO1.own b (Option.mem_toList.1 hb)).1)).below⟩
