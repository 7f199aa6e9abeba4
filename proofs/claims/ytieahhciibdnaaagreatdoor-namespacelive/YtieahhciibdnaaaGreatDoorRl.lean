import Derived.Test.YtieahhciibdnaaaGreatDoorRk
import Derived.Test.YtieahhciibdnaaaGreatDoorRf
set_option linter.all false
namespace Go.Proofs.YtieahhciibdnaaaGreatDoor
set_option maxRecDepth 100000
set_option maxHeartbeats 0
section
open Go Go.Proofs Go.Maps Go.RowKit FM Tryz
attribute [local go_sem] Ak Ae Aq Dl Dk Bl Af Aj Ad Bj Et Es
def ReadsN (w:World) (A:Option Addr) (l:List ByteArray):Prop:= ∀(j:Nat) (s:ByteArray),l[j]? =some s-> ∃b off,A=some ⟨b,off,none⟩/\b<w.heap.size/\w.cell? ⟨b,off+j * 1,none⟩=some (.string s)
theorem ReadsN.fr {w X:World} {A:Option Addr} {l:List ByteArray} (h:ReadsN w A l) (k:Fr w X []):ReadsN X A l:=fun j s hj=>by
 obtain⟨b,off,h1,h2,h3⟩:=h j s hj
 exact⟨b,off,h1,Nat.lt_of_lt_of_le h2 k.size,by rw[World.cell?_of_block (k.block b h2 (by simp))];exact h3⟩
theorem Zdw:prog.underlying 22=some (.slice (prog.elem 22)):=by kernel_rfl
theorem ZdY (w:World):(sizeOf (prog.elem 22)).run prog w= .ok 1 w:=by kernel_rfl
theorem ZaJ {o:Oper} {a:Act} {w:World} {x:Operand} {s:ByteArray} (ho:o.op= .build 45 #[(0,x)]) (hx:a.eval x= .string s):(execOp a.eval o).run prog w= .ok (.value (.agg (KK.cs ⟨s,0⟩).toArray)) w:=by
 have e:(Instr.build 45 #[(0, .string s)]).run prog w= .ok (.agg (KK.cs ⟨s,0⟩).toArray) w:=by kernel_rfl
 unfold execOp
 simp only[ho,List.map_toArray,List.map_cons,List.map_nil,hx]
 simp[e]
theorem ex_b0 {o:Oper} {a:Act} {w:World} (ho:o.op= .build 78 #[]):(execOp a.eval o).run prog w= .ok (.value (.agg #[])) w:=by
 have e:(Instr.build 78 #[]).run prog w= .ok (.agg #[]) w:=by kernel_rfl
 unfold execOp
 simp only[ho]
 simp[e]
section
variable {ops : Array Oper} {rest : List Oper} {Q : Exit → Act → World → Prop} {w w0 : World} {a : Act} {o : Oper} {E : List Nat} {L : List Ob}
variable {α : Type} {R : Value → Option (DataW Unit × List MemPlace)} {val : α → Value} {dat : α → DataW Unit} {z : α}
theorem mkT {t e:TypeId} {x:Operand} {n:Int} (R:Value->Option (DataW Unit×List MemPlace)) (dat:α->DataW Unit) (z:α) (ht:prog.underlying t=some (.map 9 e)) (hw:Region.wanted o (yielded ops a.tmps)=true) (ho:o.op= .makeMap t (some x)) (hx:a.eval x= .int .i64 n) (hL:Sy w0 w E L)
  (h: ∀X B,Sy w0 X E (L++ [Eb R dat z B 0 (fun _=>none)])->wpList prog ops Q rest (a.put o.dst (.map (some B))) X):wpList prog ops Q (o::rest) a w:=by
 refine BigFrame.wpList_want hw fun K' hK=> ?_
 have hP:=hK _ _ (h (w.alloc (.map #[] 0)) w.heap.size (hL.add (Nw R dat z _ _ _) (MapT.made w) ((Below.refl _ _).alloc (Nat.le_refl _) _) (fun b hb=>by rw[List.mem_singleton.1 hb];exact Nat.le_refl _)))
 have e2:(Instr.makeMap t (some (.int .i64 n))).run prog w= .ok (.map (some w.heap.size)) (w.alloc (.map #[] 0)):=by
  simp[Instr.makeMap,run_underlying ht,asInt,asIntOf,Result.andThen]
 unfold Oper.wp execOp
 simp only[ho,hx,Option.map_some]
 simp[e2]
 exact hP
theorem mkT0 {t:TypeId} (R:Value->Option (DataW Unit×List MemPlace)) (dat:α->DataW Unit) (z:α) (hw:Region.wanted o (yielded ops a.tmps)=true) (ho:o.op= .makeMap t none) (hL:Sy w0 w E L)
  (h: ∀X B,Sy w0 X E (L++ [Eb R dat z B 0 (fun _=>none)])->wpList prog ops Q rest (a.put o.dst (.map (some B))) X):wpList prog ops Q (o::rest) a w:=by
 refine BigFrame.wpList_want hw fun K' hK=> ?_
 have hP:=hK _ _ (h (w.alloc (.map #[] 0)) w.heap.size (hL.add (Nw R dat z _ _ _) (MapT.made w) ((Below.refl _ _).alloc (Nat.le_refl _) _) (fun b hb=>by rw[List.mem_singleton.1 hb];exact Nat.le_refl _)))
 have e2:(Instr.makeMap t none).run prog w= .ok (.map (some w.heap.size)) (w.alloc (.map #[] 0)):=by rfl
 unfold Oper.wp execOp
 simp only[ho]
 simp[e2]
 exact hP
theorem upT {t e:TypeId} {m x y:Operand} {b n:Nat} {F:ByteArray->Option α} {k:ByteArray} (i:Nat) (r:α) (V:Enc R val dat) (T:EncT val z t e) (hg:o.guard=none) (ho:o.op= .mapUpdate t m x y) (hm:a.eval m= .map (some b)) (hx:a.eval x= .string k) (hy:a.eval y=val r) (hk:okN k) (hn:n<maxLen) (hL:Sy w0 w E L) (hi:L[i]? =some (Eb R dat z b n F))
  (h: ∀X,Sy w0 X E (L.set i (Eb R dat z b (n+1) (Mx F k (some r))))->wpList prog ops Q rest (a.put o.dst undef) X):wpList prog ops Q (o::rest) a w:=by
 obtain⟨X,hrun,hM,ht⟩:=MapT.store V T (show MapT R dat z w b n F from hL.get i hi) hk hn r
 have S:=hL.set i hi (Nw R dat z b (n+1) (Mx F k (some r))) hM (Zm ht) (fun b hb=> .inl hb)
 refine BigFrame.wpList_want (by simp[Region.wanted,hg]) fun K' hK=> ?_
 have hP:=hK _ _ (h _ S)
 unfold Oper.wp execOp
 simp only[ho,hm,hx,hy]
 simp[hrun]
 exact hP
end
section
variable {ops : Array Oper} {rest : List Oper} {Q : Exit → Act → World → Prop} {w w0 : World} {a : Act} {o : Oper} {E : List Nat} {L : List Ob}
theorem alE0 (t:TypeId) (hw:Region.wanted o (yielded ops a.tmps)=true) (ho:o.op= .alloc t) (hz: ∀w,(zeroValue t).run prog w= .ok (.agg #[]) w) (hL:Sy w0 w E L)
  (h: ∀X B,Sy w0 X E L->wpList prog ops Q rest (a.put o.dst (.pointer (some ⟨B,0,none⟩))) X):wpList prog ops Q (o::rest) a w:=by
 refine BigFrame.wpList_want hw fun K hK=> ?_
 have hP:=hK _ _ (h (w.alloc (Obj.cells #[] t)) w.heap.size (hL.on ((Below.refl _ _).alloc (Nat.le_refl _) _)))
 have he:(execOp a.eval o).run prog w= .ok (.value (.pointer (some ⟨w.heap.size,0,none⟩))) (w.alloc (Obj.cells #[] t)):=by
  unfold execOp
  simp only[ho]
  simp[go_sem,hz]
 unfold Oper.wp
 rw[he]
 exact hP
theorem stE0 {b:Nat} {x y:Operand} (t:TypeId) (hw:Region.wanted o (yielded ops a.tmps)=true) (ho:o.op= .store t x y) (hx:a.eval x= .pointer (some ⟨b,0,none⟩)) (hy:a.eval y= .agg #[]) (hi:(prog.info? t).map (·.size)=some 0)
  (h:wpList prog ops Q rest (a.put o.dst undef) w):wpList prog ops Q (o::rest) a w:=by
 refine BigFrame.wpList_want hw fun K hK=> ?_
 have hP:=hK _ _ h
 unfold Oper.wp execOp
 simp only[ho,hx,hy,Instr.storeAt,Instr.sureAddr,Sem.run_bind,Sem.run_pure,Result.andThen_ok,Dt w b 0 t (.agg #[]) [] rfl (fun j hj=>by simp at hj) hi (by simp)]
 exact hP
end
theorem zvU (w:World):(zeroValue 78).run prog w= .ok (.agg #[]) w:=by kernel_rfl
theorem szU:(prog.info? 78).map (·.size)=some 0:=by kernel_rfl
open Classical in
noncomputable def seenF (ns:List ByteArray) (i:Nat):ByteArray->Option Unit:=fun s=>if s∈ns.take i then some () else none
theorem Zce (ns:List ByteArray):seenF ns 0=fun _=>none:=by
 funext s
 simp[seenF]
theorem Vf {ns:List ByteArray} {i:Nat} {s:ByteArray} (h:ns[i]? =some s):ns.take (i+1)=ns.take i++ [s]:=by
 rw[List.take_add_one,h]
 rfl
theorem Zcf {ns:List ByteArray} {i:Nat} {s:ByteArray} (h:ns[i]? =some s):Mx (seenF ns i) s (some ())=seenF ns (i+1):=by
 funext q
 unfold Mx seenF
 rw[Vf h]
 by_cases e:q=s
 ·rw[if_pos e,if_pos (by rw[e];simp)]
 ·rw[if_neg e]
  by_cases hq:q∈ns.take i
  ·rw[if_pos hq,if_pos (by simp[hq])]
  ·rw[if_neg hq,if_neg (by simp[hq,e])]
def gkN (s:ByteArray):Bool:=goodK ⟨s,0⟩
def Zd9 (ns:List ByteArray):Bool:=ns.all gkN && decide ns.Nodup
def Ko (ns:List ByteArray):Int:=if Zd9 ns then 0 else 5
theorem exp_bad {ns:List ByteArray} {i:Nat} {s:ByteArray} (h:ns[i]? =some s) (hb:gkN s=false):Ko ns=5:=by
 unfold Ko Zd9
 rw[List.all_eq_false.2 ⟨s,List.mem_of_getElem? h,by simp[hb]⟩]
 rfl
theorem exp_dup {ns:List ByteArray} {i:Nat} {s:ByteArray} (h:ns[i]? =some s) (hm:s∈ns.take i):Ko ns=5:=by
 have hn: ¬ns.Nodup:=fun hn=>by
  obtain⟨j,hj,hs⟩:=List.mem_take_iff_getElem.1 hm
  obtain⟨hi,hs2⟩:=List.getElem?_eq_some_iff.1 h
  have h1:j<i:=by omega
  exact(List.pairwise_iff_getElem.1 hn j i (by omega) hi h1) (hs.trans hs2.symm)
 unfold Ko Zd9
 rw[decide_eq_false hn]
 simp
theorem exp_ok {ns:List ByteArray} (h1: ∀j v,j<ns.length->ns[j]? =some v->gkN v=true) (h2:(ns.take ns.length).Nodup):Ko ns=0:=by
 have h3:ns.all gkN=true:=by
  rw[List.all_eq_true]
  intro v hv
  obtain⟨j,hj⟩:=List.getElem?_of_mem hv
  exact h1 j v (List.getElem?_eq_some_iff.1 hj).1 hj
 rw[List.take_length] at h2
 unfold Ko Zd9
 rw[h3,decide_eq_true h2]
 rfl
theorem Zcp {ns:List ByteArray} {i:Nat} {s:ByteArray} (h:ns[i]? =some s) (hm:s ∉ ns.take i) (hn:(ns.take i).Nodup):(ns.take (i+1)).Nodup:=by
 rw[Vf h,List.nodup_append]
 exact⟨hn,by simp,fun a ha b hb e=>by rw[List.mem_singleton.1 hb] at e;exact hm (e▸ha)⟩
theorem sU {F:ByteArray->Option Unit} {s:ByteArray} (h:F s=some ()):Value.tuple #[uV ((F s).getD ()), .bool (F s).isSome]= .tuple #[.agg #[], .bool true]:=by rw[h];rfl
theorem sUn {F:ByteArray->Option Unit} {s:ByteArray} (h:F s=none):Value.tuple #[uV ((F s).getD ()), .bool (F s).isSome]= .tuple #[.agg #[], .bool false]:=by rw[h];rfl
theorem Qk {s:ByteArray} (h:gkN s=true):s.size<=1048576:=Oy h
theorem ex_lkU {o:Oper} {a:Act} {w:World} {m x:Operand} {mb n:Nat} {F:ByteArray->Option Unit} {s:ByteArray} {V:Value} (ho:o.op= .lookup 115 m x true) (hm:a.eval m= .map (some mb)) (hx:a.eval x= .string s) (H:MapT uR uD () w mb n F) (hs:okN s) (hR:Value.tuple #[uV ((F s).getD ()), .bool (F s).isSome]=V):(execOp a.eval o).run prog w= .ok (.value V) w:=Yh encE0 ZcC H hs hR ho hm hx
theorem Nj (B:Option Addr) (c:Nat) (ns:List ByteArray) (w:World) (hT:Lib.Utf8Tabs 1 2 w) (hR:ReadsN w B ns) (hz:ns.length<=1000):Calls prog 30 #[.slice B ns.length c] w fun e w'=>e= .returned (.int .i64 (Ko ns))/\Below w.heap.size w w':=by
 have SS:=Ab (Sy.nil w [])
 have HT:=Ab hT
 clear hT
 have HR:=Ab hR
 have HZ:=Ab hz
 clear hR hz
 go_enter func30,ntmps30
 go_wp2_with (first|go_skip|((with_reducible show wpList ..);first|(refine rd rfl (Bo 22 9 underlying22 rfl rfl) ?_)|((refine mkT uR uD () ZcC.und (by rfl) rfl rfl (Aa SS) ?_);intro X1 B1 S1;replace SS:=Ab S1;clear S1;simp only[nn])))
 rw[←Zce ns] at SS
 go_loopg [14] ns.length (fun gm s14 wr=> ∃i:Nat,s14= .int .i64 (i:Nat)/\i<=ns.length/\ns.length - i<=gm/\Hid (∀j v,j<i->ns[j]? =some v->gkN v=true)/\Hid (ns.take i).Nodup/\Hid (Sy w wr [] [Eb uR uD () B1 i (seenF ns i)]))
 case atStart=>exact⟨0,rfl,by omega,by omega,Ab (fun j v hj=>by omega),Ab (by simp),SS⟩
 case round=>
  clear SS
  obtain⟨i,rfl,hil,hgm,HD,HN,SS⟩:=hrel
  by_cases hlt:i<ns.length
  ·have dlt:decide ((i:Int)<(ns.length:Int))=true:=decide_eq_true (by omega)
   have hw1:IntKind.i64.wrap ((i:Int)+1)=(i:Int)+1:=by have:=Aa HZ;rw[IntKind.wrap_i64];omega
   obtain⟨s,hs⟩: ∃s,ns[i]? =some s:=⟨_,List.getElem?_eq_getElem hlt⟩
   obtain⟨b,off,hA,hb,hcell⟩:=(Aa HR) i s hs
   have HC:Hid (∀X:World,Fr w X []->X.cell? ⟨b,off+i * 1,none⟩=some (.string s)):=Ab (fun X k=>by rw[World.cell?_of_block (k.block b hb (by simp))];exact hcell)
   subst hA
   have HLT:=Ab hlt
   clear hb hcell hlt hil
   cases hz2:gkN s
   ·have HFA:Hid (Ko ns=5):=Ab (exp_bad hs hz2)
    go_wp2_with (first|go_skip|((with_reducible show wpList ..);first|(refine rd rfl (Bo 22 9 underlying22 rfl rfl) ?_)|(refine rd rfl (Bp 22 1 i Zdw ZdY rfl rfl rfl (Aa HLT)) ?_)|(refine rd rfl (Dc 9 isAgg9 rfl rfl (Aa HC _ (Aa SS).fr)) ?_)|(refine rd rfl (ZaJ rfl rfl) ?_)))
    have HO:=Lu ⟨s,0⟩ _ (Al (Aa HT) (Aa SS).fr.below)
    rw[Dg,show Bh ⟨s,0⟩=5 by unfold Bh;rw[show goodK ⟨s,0⟩=_ from hz2];rfl] at HO
    refine HO.mono ?_
    clear HO
    rintro e X5 ⟨rfl,hb5⟩
    replace SS:=Ab ((Aa SS).on hb5)
    clear hb5
    go_wp2
    go_ret
    exact⟨by rw[Aa HFA];rfl,(Aa SS).fr.below⟩
   ·have hsz:okN s:=Nat.le_trans (Qk hz2) (by decide)
    go_wp2_with (first|go_skip|((with_reducible show wpList ..);first|(refine rd rfl (Bo 22 9 underlying22 rfl rfl) ?_)|(refine rd rfl (Bp 22 1 i Zdw ZdY rfl rfl rfl (Aa HLT)) ?_)|(refine rd rfl (Dc 9 isAgg9 rfl rfl (Aa HC _ (Aa SS).fr)) ?_)|(refine rd rfl (ZaJ rfl rfl) ?_)))
    have HO:=Lu ⟨s,0⟩ _ (Al (Aa HT) (Aa SS).fr.below)
    rw[Dg,show Bh ⟨s,0⟩=0 by unfold Bh;rw[show goodK ⟨s,0⟩=_ from hz2];rfl] at HO
    refine HO.mono ?_
    clear HO
    rintro e X5 ⟨rfl,hb5⟩
    replace SS:=Ab ((Aa SS).on hb5)
    clear hb5
    by_cases hm:s∈ns.take i
    ·have HLK:=Ab (sU (show seenF ns i s=some () by unfold seenF;rw[if_pos hm]))
     have HFA:Hid (Ko ns=5):=Ab (exp_dup hs hm)
     clear hs hm
     go_wp2_with (first|go_skip|((with_reducible show wpList ..);first|(refine rd rfl (ex_lkU rfl rfl rfl ((Aa SS).get 0 rfl) hsz (Aa HLK)) ?_)|((refine alE0 78 (by rfl) rfl zvU (Aa SS) ?_);intro X2 B2 S2;replace SS:=Ab S2;clear S2;simp only[nn])|((refine stE0 78 (by rfl) rfl rfl rfl szU ?_);simp only[nn])))
     go_ret
     exact⟨by rw[Aa HFA];rfl,(Aa SS).fr.below⟩
    ·have HLK:=Ab (sUn (show seenF ns i s=none by unfold seenF;rw[if_neg hm]))
     have HD2:Hid (∀j u,j<i+1->ns[j]? =some u->gkN u=true):=Ab (fun j u hj hu=>by
      rcases Nat.lt_or_ge j i with h|h
      ·exact Aa HD j u h hu
      ·obtain rfl:j=i:=by omega
       obtain rfl:s=u:=Option.some.inj (hs.symm.trans hu)
       exact hz2)
     have HN2:=Ab (Zcp hs hm (Aa HN))
     have HS2:=Ab (Zcf hs)
     clear HD HN hs hm
     go_wp2_with (first|go_skip|((with_reducible show wpList ..);first|(refine rd rfl (ex_lkU rfl rfl rfl ((Aa SS).get 0 rfl) hsz (Aa HLK)) ?_)|((refine alE0 78 (by rfl) rfl zvU (Aa SS) ?_);intro X2 B2 S2;replace SS:=Ab S2;clear S2;simp only[nn])|((refine stE0 78 (by rfl) rfl rfl rfl szU ?_);simp only[nn])|(refine rd rfl (ex_b0 rfl) ?_)|((refine upT 0 () encE0 ZcC (by rfl) rfl rfl rfl rfl hsz (by have:=Aa HLT;have:=Aa HZ;unfold maxLen;omega) (Aa SS) rfl ?_);intro X3 S3;replace SS:=Ab S3;clear S3;simp only[nn])))
     rw[Aa HS2] at SS
     go_roundg (ns.length - (i+1))
     case measure=>have:=Aa HLT;omega
     case rel=>exact⟨i+1,by go_num,by have:=Aa HLT;omega,by omega,HD2,HN2,SS⟩
  ·obtain rfl:i=ns.length:=by omega
   have HTA:Hid (Ko ns=0):=Ab (exp_ok (fun j v hj hv=>Aa HD j v hj hv) (Aa HN))
   clear hlt hil HD HN
   go_wp2_with fail
   go_ret
   exact⟨by rw[Aa HTA];rfl,(Aa SS).fr.below⟩
theorem Zb0 (a b:BN) (ha:a.n.size<=1048576) (hb:b.n.size<=1048576) (w:World) (hT:Lib.Utf8Tabs 1 2 w):Calls prog 64 #[a.agg,b.agg] w fun e w'=>e= .returned (.int .i64 (cmI a.n b.n))/\Below w.heap.size w w':=by
 have SS:=Ab (Sy.nil w [])
 have HT:=Ab hT
 clear hT
 simp only[Og]
 go_enter func64,ntmps64
 go_wp2_with (first|go_skip|((with_reducible show wpList ..);first|(refine zB 130 (a.cs) (by rfl) rfl rfl rfl SS ?_;clear SS;intro Xa Ba SS;simp only[nn])|(refine zB 130 (b.cs) (by rfl) rfl rfl rfl SS ?_;clear SS;intro Xb Bb SS;simp only[nn])|(refine z1 9 isAgg9 0 (by rfl) rfl rfl SS rfl rfl ?_;simp only[nn])|(refine z1 9 isAgg9 1 (by rfl) rfl rfl SS rfl rfl ?_;simp only[nn])))
 refine(Ug a.n b.n (by omega) (by omega) _ (Al (Aa HT) (Aa SS).fr.below)).mono ?_
 rintro _ Y ⟨rfl,hb⟩
 replace SS:=Ab ((Aa SS).on hb)
 clear hb
 go_wp2
 go_ret
 exact⟨rfl,(Aa SS).fr.below⟩
abbrev GB:={b:BN // vS b.n=true/\b.n.size<=1048576}
theorem vS_nil:vS ByteArray.empty=true:=by kernel_rfl
instance inhGB:Inhabited GB:=⟨⟨Jb,vS_nil,by decide⟩⟩
def Dw (b:GB):List Value:=b.1.cs
def Yn (a b:GB):Int:=M.cmpL (unS a.1.n) (unS b.1.n)
theorem Jn (x:GB):(Dw x).length=6:=rfl
theorem encB_one (x:GB): ∀v∈Dw x,v.oneCell'=true:=Ey x.1
theorem swoB:Go.Sort.SWO (Go.Proofs.ltOf Yn) where
 irrefl a:=by
  have:=M.cmpL_neg (unS a.1.n) (unS a.1.n)
  simp only[Go.Proofs.ltOf,decide_eq_false_iff_not]
  unfold Yn
  omega
 trans a b c h1 h2:=by
  simp only[Go.Proofs.ltOf,decide_eq_true_eq] at *
  unfold Yn at *
  have n1:=M.cmpL_neg (unS a.1.n) (unS b.1.n)
  have n2:=M.cmpL_neg (unS b.1.n) (unS c.1.n)
  have n3:=M.cmpL_neg (unS a.1.n) (unS c.1.n)
  have l1:=M.cmpL_le (unS a.1.n) (unS b.1.n) (unS c.1.n) (by omega) (by omega)
  by_cases h:M.cmpL (unS a.1.n) (unS c.1.n)=0
  ·have l2:=M.cmpL_le (unS b.1.n) (unS c.1.n) (unS a.1.n) (by omega) (by omega)
   omega
  ·omega
 ntrans a b c h1 h2:=by
  simp only[Go.Proofs.ltOf,decide_eq_false_iff_not] at *
  unfold Yn at *
  have:=M.cmpL_ge (unS a.1.n) (unS b.1.n) (unS c.1.n)
  have n1:=M.cmpL_neg (unS a.1.n) (unS b.1.n)
  have n2:=M.cmpL_neg (unS b.1.n) (unS c.1.n)
  have n3:=M.cmpL_neg (unS a.1.n) (unS c.1.n)
  have l1:=M.cmpL_le (unS c.1.n) (unS b.1.n) (unS a.1.n) (by omega) (by omega)
  omega
theorem cmpB_eq (a b:GB):cmI a.1.n b.1.n=Yn a b:=by
 unfold cmI ZdQ Yn
 rw[a.2.1,b.2.1]
 rfl
theorem flatB (d:Array GB):(Go.Sort.flatK Dw 6 d).toList=d.toList.flatMap Dw:=by
 apply List.ext_getElem?
 intro t
 by_cases ht:t<d.size * 6
 ·have h1:t / 6<d.toList.length:=by rw[Array.length_toList];omega
  have h2:=Qm Dw 6 Jn d.toList (t / 6) (t % 6) h1 (Nat.mod_lt _ (by decide))
  rw[Nat.div_add_mod'] at h2
  rw[h2]
  have h3:=Go.Sort.get_flatK Dw 6 d t ht
  have hs:t<(Go.Sort.flatK Dw 6 d).size:=by rw[Go.Sort.size_flatK];exact ht
  rw[Array.getElem?_toList,Array.getElem?_eq_getElem hs]
  rw[getElem!_pos (Go.Sort.flatK Dw 6 d) t hs] at h3
  rw[h3]
  have h4:t / 6<d.size:=by omega
  rw[getElem!_pos d (t / 6) h4]
  have h5:t % 6<(Dw d[t / 6]).length:=by rw[Jn];exact Nat.mod_lt _ (by decide)
  rw[getElem!_pos (Dw d[t / 6]) (t % 6) h5]
  have e6:d.toList[t / 6]=d[t / 6]:=by simp
  rw[e6,List.getElem?_eq_getElem h5]
 ·rw[List.getElem?_eq_none (by rw[Array.length_toList,Go.Sort.size_flatK];omega),List.getElem?_eq_none (by rw[Kf Dw 6 Jn,Array.length_toList];omega)]
theorem Pv: ∀(vs:List Value) (s:Nat) (F:Array Value),s+vs.length<=F.size->(Go.Sort.setMany F s vs).toList=F.toList.take s++vs++F.toList.drop (s+vs.length)
 | [],s,F,h=>by simp[Go.Sort.setMany]
 |v::r,s,F,h=>by
  have h':s<F.toList.length:=by simp at h ⊢;omega
  rw[Go.Sort.setMany,Pv r (s+1) _ (by simp at h ⊢;omega)]
  simp only[Array.toList_setIfInBounds,List.length_cons]
  rw[List.drop_set_of_lt (by omega),List.take_set,List.take_succ_eq_append_getElem h',List.set_append_right _ _ (by rw[List.length_take];omega)]
  have e:(F.toList.take s).length=s:=by rw[List.length_take];omega
  rw[e]
  simp[Nat.add_assoc,Nat.add_comm 1]
theorem Za8 (vs:List Value) (F:Array Value) (h:vs.length=F.size):Go.Sort.setMany F 0 vs=vs.toArray:=by
 apply Array.toList_inj.1
 rw[Pv vs 0 F (by omega)]
 simp[h]
theorem ZdH {w:World} {g:Nat} {d d':Array GB} (h:Go.Sort.HoldsK Dw 6 w g 0 d) (hs:d'.size=d.size):Go.Sort.putRowK Dw 6 w g 0 d'=w.setCells g 0 (d'.toList.flatMap Dw):=by
 have e:=Go.Sort.setCells_putRow w g 0 (Go.Sort.flatK Dw 6 d').toList 0 (Go.Sort.flatK Dw 6 d) (by rw[Array.length_toList,Go.Sort.size_flatK,Go.Sort.size_flatK,hs];omega)
 have e2:Go.Sort.putRow id w g 0 (Go.Sort.flatK Dw 6 d)=w:=Go.Sort.putRowK_self Dw 6 w g 0 d h
 rw[e2,Za8 _ _ (by rw[Array.length_toList,Go.Sort.size_flatK,Go.Sort.size_flatK,hs])] at e
 rw[←flatB]
 show Go.Sort.putRow id w g 0 (Go.Sort.flatK Dw 6 d')=_
 rw[show (0:Nat)+0=0 from rfl] at e
 rw[e]
theorem Xq (X:World) (m:Nat) (os:Array Obj):Below X.heap.size X (Go.Sort.grow (Go.Sort.ahead X m) os):=by
 refine⟨rfl,rfl,rfl, ?_, ?_⟩
 ·simp[Go.Sort.grow,Go.Sort.ahead]
 ·intro k hk
  show (X.heap++os)[k]? =X.heap[k]?
  rw[Array.getElem?_append_left hk]
theorem Pu {w:World} {g m:Nat} {d d':Array GB} {os:Array Obj} (h:Go.Sort.HoldsK Dw 6 w g 0 d) (hs:d'.size=d.size):Go.Proofs.sortWorldK Dw 6 w g 0 m d' os=Go.Sort.grow (Go.Sort.ahead (w.setCells g 0 (d'.toList.flatMap Dw)) m) os:=by
 rw[←ZdH h hs]
 rfl
theorem holdsB {w:World} {base g c n:Nat} {l:List GB} (h:w.ownsRow base 130 6 (.slice (some ⟨g,0,none⟩) n c) n (l.flatMap Dw)) (hn:l.length=n):Go.Sort.HoldsK Dw 6 w g 0 l.toArray:=by
 intro t ht
 rw[Go.Sort.size_flatK] at ht
 have hlt:t<(l.flatMap Dw).length:=by rw[Kf Dw 6 Jn];simpa using ht
 have hv:(Go.Sort.flatK Dw 6 l.toArray)[t]! =(l.flatMap Dw)[t]:=by
  have e:=flatB l.toArray
  have hs:t<(Go.Sort.flatK Dw 6 l.toArray).size:=by rw[Go.Sort.size_flatK];exact ht
  rw[getElem!_pos (Go.Sort.flatK Dw 6 l.toArray) t hs,←Array.getElem_toList hs]
  simp only[e]
 rw[hv]
 rcases h.2 with ⟨e1,e2⟩|⟨g',cap,cur,e1, -,h6,h7,h8,h9,h10⟩
 ·cases e1
 ·cases e1
  have h11:(cur.toList.take (n * 6))[t]? =(l.flatMap Dw)[t]? :=by rw[h10]
  have hn6:t<n * 6:=by rw[←hn];simpa using ht
  rw[List.getElem?_take,if_pos hn6,List.getElem?_eq_getElem hlt] at h11
  refine⟨?_,by simp[World.frozen?,h6]⟩
  have:(⟨g,0+t,none⟩:Addr).block=g:=rfl
  simp only[World.cell?,h6,Nat.zero_add]
  simpa using h11
theorem ZcK (X:World) (g m:Nat) (vs:List Value) (os:Array Obj) (hg:g<X.heap.size):Below g X (Go.Sort.grow (Go.Sort.ahead (X.setCells g 0 vs) m) os):=by
 have h1:=Fr.setCells X g 0 vs
 have h2:=Xq (X.setCells g 0 vs) m os
 refine⟨h2.os.trans h1.os,h2.tape.trans h1.tape,h2.output.trans h1.output,Nat.le_trans h1.size h2.size,fun k hk=> ?_⟩
 have hs:k<X.heap.size:=by omega
 rw[h2.block k (Nat.lt_of_lt_of_le hs h1.size)]
 exact h1.block k hs (by simp;omega)
theorem sort_b {w X:World} {E:List Nat} {L:List Ob} {base g c i:Nat} {l:List GB} (S:Sy w X E L) (hT:Lib.Utf8Tabs 1 2 X) (h3:3<=g) (hi:L[i]? =some (Do base 130 6 (.slice (some ⟨g,0,none⟩) l.length c) l.length (l.flatMap Dw))) (hz:l.length<=1000):
  Calls prog 63 #[.slice (some ⟨g,0,none⟩) l.length c, .func (.func 64) #[] #[]] X fun e Y=>e= .returned (.tuple #[])/\ ∃l':List GB,l'.Perm l/\(∀(a b:Nat) (x y:GB),a<b->l'[a]? =some x->l'[b]? =some y->Yn x y<=0)/\Sy w Y E (L.set i (Do base 130 6 (.slice (some ⟨g,0,none⟩) l.length c) l.length (l'.flatMap Dw))):=by
 have hH:=holdsB (S.get i hi) rfl
 have hblk:g<X.heap.size:=S.lt i hi g (by simp[Do,Value.ownBlock])
 have eg: ∀args w,(callFunc 64 args).run prog w= .ok (.enter 64 args) w:=enters_of func64 (by kernel_rfl) rfl
 have hcmp:CmpLays prog 64 #[] Dw 6 Yn g 0 l.toArray.size X:=by
  intro m os dk hs x y
  rw[Pu hH hs]
  have hT':=Mu hT h3 (ZcK X g m (dk.toList.flatMap Dw) os hblk)
  rw[←cmpB_eq]
  exact ZbX (Zb0 x.1 y.1 x.2.2 y.2.2 _ hT')
 have hcon:=AnyQ.slices_SortFunc Tryz.sortB 6 isAgg130 Tryz.sizeOf130 Dw Jn encB_one Yn swoB 64 #[] g 0 c l.toArray X eg hcmp hH hblk (by simp;omega)
 change Calls prog 63 _ _ _ at hcon
 rw[List.size_toArray] at hcon
 refine hcon.mono ?_
 rintro e Y ⟨rfl,d',n,os,hp,hs,rfl⟩
 have hz':d'.size=l.length:=by have:=hp.1;simpa using this
 refine⟨rfl,d'.toList, ?_, ?_, ?_⟩
 ·have:=hp.2.2
  simp only[Array.toList_extract,List.extract_eq_take_drop,List.drop_zero,Nat.sub_zero] at this
  rwa [List.take_of_length_le (by simp[hz']),List.take_of_length_le (by simp)] at this
 ·intro a b x y hab hx hy
  have h1:=hs a b (Nat.zero_le _) hab (by have:=(List.getElem?_eq_some_iff.1 hy).1;simp at this;omega)
  obtain⟨ha,hx'⟩:=List.getElem?_eq_some_iff.1 hx
  obtain⟨hb,hy'⟩:=List.getElem?_eq_some_iff.1 hy
  simp at ha hb hx' hy'
  rw[getElem!_pos d' a ha,getElem!_pos d' b hb,hx',hy'] at h1
  simp only[Go.Proofs.ltOf,decide_eq_false_iff_not] at h1
  have n1:=M.cmpL_neg (unS x.1.n) (unS y.1.n)
  unfold Yn at *
  omega
 ·rw[Pu hH (by simpa using hz')]
  have hlen:(d'.toList.flatMap Dw).length=(l.flatMap Dw).length:=by rw[Kf Dw 6 Jn,Kf Dw 6 Jn];simp[hz']
  have h1:=S.cell i hi (p:=0) (vs:=d'.toList.flatMap Dw) (by omega)
  have e:Bz (l.flatMap Dw) 0 (d'.toList.flatMap Dw)=d'.toList.flatMap Dw:=by
   unfold Bz
   rw[Nat.zero_add,hlen]
   simp
  rw[e] at h1
  exact h1.on (Xq _ n os)
end
section
open Go Go.Proofs Go.Maps Go.RowKit FM
attribute [local go_sem] Ak Ae Aq Dl Dk Bl Af Aj Ad Bj Et Es
theorem dorSet (h:HP) (o:Int) (k:KK) (v:VV) (r:VV) (w:World) (H:h.Is w) (hl:h.l.length<=65536) (hT:Tabs w) (P:HP->Bool->Value->Prop) (hC: ∀(j:Nat) (q:OB) (X:World),o=(j:Int)+1->h.l[j]? =some q->orE [thE o h.l.length,Bh k,Aw [v,r],Ap h.l.length [v,r]]=0->h.To h w X->Calls Tryz.prog 45 #[.pointer (some ⟨h.b,0,none⟩), .int .i64 ((j:Int)+1),k.agg,v.agg,r.agg] X fun e w'=> ∃(h1:HP) (y:Bool) (er:Value),e= .returned (.tuple #[.bool y,er])/\P h1 y er/\h.To h1 X w'):Calls Tryz.prog 17 #[.pointer (some ⟨h.b,0,none⟩), .int .i64 o,k.agg,v.agg,r.agg] w fun e w'=> ∃(h1:HP) (y:Bool) (er:Value),e= .returned (.tuple #[.bool y,er])/\((orE [thE o h.l.length,Bh k,Aw [v,r],Ap h.l.length [v,r]]≠0/\er=Qp (orE [thE o h.l.length,Bh k,Aw [v,r],Ap h.l.length [v,r]])/\h1=h/\y=false)∨(orE [thE o h.l.length,Bh k,Aw [v,r],Ap h.l.length [v,r]]=0/\P h1 y er))/\h.To h1 w w':=by
 have SS:=Ab H.start
 rw[Dg,Db,Db]
 go_enter Tryz.func17,Tryz.ntmps17
 go_wp2_with (first|go_skip|((with_reducible show wpList ..);first|(refine zB 45 (k.cs) (by rfl) rfl rfl rfl SS ?_;clear SS;intro Xp0 Bp0 SS;simp only[nn])|(refine zB 26 (v.cs) (by rfl) rfl rfl rfl SS ?_;clear SS;intro Xp1 Bp1 SS;simp only[nn])|(refine zB 26 (r.cs) (by rfl) rfl rfl rfl SS ?_;clear SS;intro Xp2 Bp2 SS;simp only[nn])))
 have kt:=fun {X:World} (s:h.Is X)=>Je h o X s
 have kk:=fun {X:World} (s:Fr w X h.blocks)=>Lu k X (hT.fr s H.low).1
 have ks:=fun {X:World} {B:Nat} (s:Fr w X h.blocks) (g:Holds X B ([v,r].flatMap VV.cs))=>Ut (some ⟨B,0,none⟩) 2 [v,r] X (hT.fr s H.low).1 (Ec g) (by simp)
 have kn:=fun {X:World} {B:Nat} (s:h.Is X) (g:Holds X B ([v,r].flatMap VV.cs))=>Ny h (some ⟨B,0,none⟩) 2 [v,r] X s (Ec g) (by simp)
 have ko:=fun {X:World} {B:Nat} (g:Holds X B (Md [thE o h.l.length,Bh k,Aw [v,r],Ap h.l.length [v,r]]))=>Lt B 4 [thE o h.l.length,Bh k,Aw [v,r],Ap h.l.length [v,r]] X g (by simp)
 have hS1:Sy w _ h.blocks [hpO h,Ao Bp0 k.cs,Ao Bp1 v.cs,Ao Bp2 r.cs]:=(Aa SS).drew
 clear SS
 refine Gd (fun a a' X=> ∃(v20 v25 v27:Value),a'=(((((((((((((((((a.put (some 13) (.pointer (some ⟨h.b,0,none⟩))).put (some 14) (.int .i64 o)).put (some 15) (.int .i64 (thE o h.l.length))).put (some 16) (.agg k.cs.toArray)).put (some 17) (.int .i64 (Bh k))).put (some 18) (.agg (v.cs).toArray)).put (some 19) (.agg (r.cs).toArray)).put (some 20) v20).put (some 21) (.int .i64 (Aw [v,r]))).put (some 22) (.pointer (some ⟨h.b,0,none⟩))).put (some 23) (.agg (v.cs).toArray)).put (some 24) (.agg (r.cs).toArray)).put (some 25) v25).put (some 26) (.int .i64 (Ap h.l.length [v,r]))).put (some 27) v27).put (some 28) (.int .i64 (orE [thE o h.l.length,Bh k,Aw [v,r],Ap h.l.length [v,r]]))).put (some 12) (.int .i64 (orE [thE o h.l.length,Bh k,Aw [v,r],Ap h.l.length [v,r]])))/\Sy w X h.blocks [hpO h,Ao Bp0 k.cs,Ao Bp1 v.cs,Ao Bp2 r.cs]) ?_ ?_
 ·have cu: ∀{X:World} {M:List Ob},Sy w X h.blocks ([hpO h,Ao Bp0 k.cs,Ao Bp1 v.cs,Ao Bp2 r.cs]++M)->Sy w X h.blocks [hpO h,Ao Bp0 k.cs,Ao Bp1 v.cs,Ao Bp2 r.cs]:=fun h=>Sy.left h
  refine wp_region_held_drew (P:=Tryz.prog) (S:=fun X=>Sy w X h.blocks _) (by kernel_rfl) (hS1) (fun hS0=> ?_)
  refine gp 0 (some 13) (.pointer (some ⟨h.b,0,none⟩)) rfl rfl (hS1) ?_
  refine gp 1 (some 14) (.int .i64 o) rfl rfl (hS1) ?_
  refine gq 3 (some 16) (.agg k.cs.toArray) rfl rfl (fun X hX=>Am (vs:=k.cs) 45 2 rwK szK rfl rfl (hX.hold 1 rfl) rfl rfl) (hS1) ?_
  refine gq 5 (some 18) (.agg (v.cs).toArray) rfl rfl (fun X hX=>Am (vs:=v.cs) 26 5 rwV szV rfl rfl (hX.hold 2 rfl) rfl rfl) (hS1) ?_
  refine gq 6 (some 19) (.agg (r.cs).toArray) rfl rfl (fun X hX=>Am (vs:=r.cs) 26 5 rwV szV rfl rfl (hX.hold 3 rfl) rfl rfl) (hS1) ?_
  refine gp 9 (some 22) (.pointer (some ⟨h.b,0,none⟩)) rfl rfl (hS1) ?_
  refine gq 10 (some 23) (.agg (v.cs).toArray) rfl rfl (fun X hX=>Am (vs:=v.cs) 26 5 rwV szV rfl rfl (hX.hold 2 rfl) rfl rfl) (hS1) ?_
  refine gq 11 (some 24) (.agg (r.cs).toArray) rfl rfl (fun X hX=>Am (vs:=r.cs) 26 5 rwV szV rfl rfl (hX.hold 3 rfl) rfl rfl) (hS1) ?_
  refine gr (rs:= [2,7,12]) (gcW 2 (some 15) rfl rfl (hS1) (kt (hS1.hp 0 rfl)) ?_ (Ax 7 (some 20) rfl rfl (by kernel_rfl) (Dd rfl rfl rfl) (Nat.succ_pos _) hS1 (fun _ hZ=>cu hZ) ?_ (Ax 12 (some 25) rfl rfl (by kernel_rfl) (Dd rfl rfl rfl) (Nat.succ_pos _) hS1 (fun _ hZ=>cu hZ) ?_ gn)))
  ·simp only[nn]
   refine gr (rs:= [4,7,12]) (gcB 4 (some 17) rfl rfl hS1 (kk hS1.fr) id ?_ (Ax 7 (some 20) rfl rfl (by kernel_rfl) (Dd rfl rfl rfl) (Nat.succ_pos _) hS1 (fun _ hZ=>cu hZ) ?_ (Ax 12 (some 25) rfl rfl (by kernel_rfl) (Dd rfl rfl rfl) (Nat.succ_pos _) hS1 (fun _ hZ=>cu hZ) ?_ gn)))
   ·intro Yt2 hqt2
    simp only[nn]
    refine gr (rs:= [7,12]) (Ax 7 (some 20) rfl rfl (by kernel_rfl) (Dd rfl rfl rfl) (Nat.succ_pos _) hqt2 (fun _ hZ=>cu hZ) ?_ (Ax 12 (some 25) rfl rfl (by kernel_rfl) (Dd rfl rfl rfl) (Nat.succ_pos _) hqt2 (fun _ hZ=>cu hZ) ?_ gn))
    ·intro Yt3 Bt3 hEt3 hqt3
     clear hEt3
     simp only[nn]
     refine gr (rs:= [8,12]) (gcB 8 (some 21) rfl rfl hqt3 (ks hqt3.fr (hqt3.hold 4 rfl)) (fun x=>cu x) ?_ (Ax 12 (some 25) rfl rfl (by kernel_rfl) (Dd rfl rfl rfl) (Nat.succ_pos _) hqt3 (fun _ hZ=>cu hZ) ?_ gn))
     ·intro Yt4 hqt4
      simp only[nn]
      refine gr (rs:= [12]) (Ax 12 (some 25) rfl rfl (by kernel_rfl) (Dd rfl rfl rfl) (Nat.succ_pos _) hqt4 (fun _ hZ=>cu hZ) ?_ gn)
      intro Yt5 Bt5 hEt5 hqt5
      clear hEt5
      simp only[nn]
      refine gr (rs:= [13]) (gcB 13 (some 26) rfl rfl hqt5 (kn (hqt5.hp 0 rfl) (hqt5.hold 5 rfl)) (fun x=>cu x) ?_ gn)
      intro Yt6 hqt6
      simp only[nn]
      refine gr (rs:= [14]) (Ax 14 (some 27) rfl rfl (by kernel_rfl) (Bs rfl rfl rfl rfl rfl) (Nat.succ_pos _) hqt6 (fun _ hZ=>cu hZ) ?_ gn)
      intro Yt7 Bt7 hEt7 hqt7
      clear hEt7
      simp only[nn]
      refine gr (rs:= [15]) (gcW 15 (some 28) rfl rfl (cu hqt7) (ko (hqt7.hold 6 rfl)) ?_ gn)
      refine gp 16 (some 12) (.int .i64 (orE [thE o h.l.length,Bh k,Aw [v,r],Ap h.l.length [v,r]])) rfl rfl (cu hqt7) ?_
      refine dn ?_
      try simp only[nn]
      exact pN ⟨_,_,_,rfl,cu hqt7⟩
     ·intro Yt9 Bt9 hEt9 hqt9
      clear hEt9
      simp only[nn]
      refine gr (rs:= [8]) (gcB 8 (some 21) rfl rfl hqt9 (ks hqt9.fr (hqt9.hold 4 rfl)) (fun x=>cu x) ?_ gn)
      intro Yt10 hqt10
      simp only[nn]
      refine gr (rs:= [13]) (gcB 13 (some 26) rfl rfl hqt10 (kn (hqt10.hp 0 rfl) (hqt10.hold 5 rfl)) (fun x=>cu x) ?_ gn)
      intro Yt11 hqt11
      simp only[nn]
      refine gr (rs:= [14]) (Ax 14 (some 27) rfl rfl (by kernel_rfl) (Bs rfl rfl rfl rfl rfl) (Nat.succ_pos _) hqt11 (fun _ hZ=>cu hZ) ?_ gn)
      intro Yt12 Bt12 hEt12 hqt12
      clear hEt12
      simp only[nn]
      refine gr (rs:= [15]) (gcW 15 (some 28) rfl rfl (cu hqt12) (ko (hqt12.hold 6 rfl)) ?_ gn)
      refine gp 16 (some 12) (.int .i64 (orE [thE o h.l.length,Bh k,Aw [v,r],Ap h.l.length [v,r]])) rfl rfl (cu hqt12) ?_
      refine dn ?_
      try simp only[nn]
      exact pN ⟨_,_,_,rfl,cu hqt12⟩
    ·intro Yt14 Bt14 hEt14 hqt14
     clear hEt14
     simp only[nn]
     refine gr (rs:= [7]) (Ax 7 (some 20) rfl rfl (by kernel_rfl) (Dd rfl rfl rfl) (Nat.succ_pos _) hqt14 (fun _ hZ=>cu hZ) ?_ gn)
     intro Yt15 Bt15 hEt15 hqt15
     clear hEt15
     simp only[nn]
     refine gr (rs:= [8]) (gcB 8 (some 21) rfl rfl hqt15 (ks hqt15.fr (hqt15.hold 5 rfl)) (fun x=>cu x) ?_ gn)
     intro Yt16 hqt16
     simp only[nn]
     refine gr (rs:= [13]) (gcB 13 (some 26) rfl rfl hqt16 (kn (hqt16.hp 0 rfl) (hqt16.hold 4 rfl)) (fun x=>cu x) ?_ gn)
     intro Yt17 hqt17
     simp only[nn]
     refine gr (rs:= [14]) (Ax 14 (some 27) rfl rfl (by kernel_rfl) (Bs rfl rfl rfl rfl rfl) (Nat.succ_pos _) hqt17 (fun _ hZ=>cu hZ) ?_ gn)
     intro Yt18 Bt18 hEt18 hqt18
     clear hEt18
     simp only[nn]
     refine gr (rs:= [15]) (gcW 15 (some 28) rfl rfl (cu hqt18) (ko (hqt18.hold 6 rfl)) ?_ gn)
     refine gp 16 (some 12) (.int .i64 (orE [thE o h.l.length,Bh k,Aw [v,r],Ap h.l.length [v,r]])) rfl rfl (cu hqt18) ?_
     refine dn ?_
     try simp only[nn]
     exact pN ⟨_,_,_,rfl,cu hqt18⟩
   ·intro Yt20 Bt20 hEt20 hqt20
    clear hEt20
    simp only[nn]
    refine gr (rs:= [4,12]) (gcB 4 (some 17) rfl rfl hqt20 (kk hqt20.fr) (fun x=>cu x) ?_ (Ax 12 (some 25) rfl rfl (by kernel_rfl) (Dd rfl rfl rfl) (Nat.succ_pos _) hqt20 (fun _ hZ=>cu hZ) ?_ gn))
    ·intro Yt21 hqt21
     simp only[nn]
     refine gr (rs:= [8,12]) (gcB 8 (some 21) rfl rfl hqt21 (ks hqt21.fr (hqt21.hold 4 rfl)) (fun x=>cu x) ?_ (Ax 12 (some 25) rfl rfl (by kernel_rfl) (Dd rfl rfl rfl) (Nat.succ_pos _) hqt21 (fun _ hZ=>cu hZ) ?_ gn))
     ·intro Yt22 hqt22
      simp only[nn]
      refine gr (rs:= [12]) (Ax 12 (some 25) rfl rfl (by kernel_rfl) (Dd rfl rfl rfl) (Nat.succ_pos _) hqt22 (fun _ hZ=>cu hZ) ?_ gn)
      intro Yt23 Bt23 hEt23 hqt23
      clear hEt23
      simp only[nn]
      refine gr (rs:= [13]) (gcB 13 (some 26) rfl rfl hqt23 (kn (hqt23.hp 0 rfl) (hqt23.hold 5 rfl)) (fun x=>cu x) ?_ gn)
      intro Yt24 hqt24
      simp only[nn]
      refine gr (rs:= [14]) (Ax 14 (some 27) rfl rfl (by kernel_rfl) (Bs rfl rfl rfl rfl rfl) (Nat.succ_pos _) hqt24 (fun _ hZ=>cu hZ) ?_ gn)
      intro Yt25 Bt25 hEt25 hqt25
      clear hEt25
      simp only[nn]
      refine gr (rs:= [15]) (gcW 15 (some 28) rfl rfl (cu hqt25) (ko (hqt25.hold 6 rfl)) ?_ gn)
      refine gp 16 (some 12) (.int .i64 (orE [thE o h.l.length,Bh k,Aw [v,r],Ap h.l.length [v,r]])) rfl rfl (cu hqt25) ?_
      refine dn ?_
      try simp only[nn]
      exact pN ⟨_,_,_,rfl,cu hqt25⟩
     ·intro Yt27 Bt27 hEt27 hqt27
      clear hEt27
      simp only[nn]
      refine gr (rs:= [8]) (gcB 8 (some 21) rfl rfl hqt27 (ks hqt27.fr (hqt27.hold 4 rfl)) (fun x=>cu x) ?_ gn)
      intro Yt28 hqt28
      simp only[nn]
      refine gr (rs:= [13]) (gcB 13 (some 26) rfl rfl hqt28 (kn (hqt28.hp 0 rfl) (hqt28.hold 5 rfl)) (fun x=>cu x) ?_ gn)
      intro Yt29 hqt29
      simp only[nn]
      refine gr (rs:= [14]) (Ax 14 (some 27) rfl rfl (by kernel_rfl) (Bs rfl rfl rfl rfl rfl) (Nat.succ_pos _) hqt29 (fun _ hZ=>cu hZ) ?_ gn)
      intro Yt30 Bt30 hEt30 hqt30
      clear hEt30
      simp only[nn]
      refine gr (rs:= [15]) (gcW 15 (some 28) rfl rfl (cu hqt30) (ko (hqt30.hold 6 rfl)) ?_ gn)
      refine gp 16 (some 12) (.int .i64 (orE [thE o h.l.length,Bh k,Aw [v,r],Ap h.l.length [v,r]])) rfl rfl (cu hqt30) ?_
      refine dn ?_
      try simp only[nn]
      exact pN ⟨_,_,_,rfl,cu hqt30⟩
    ·intro Yt32 Bt32 hEt32 hqt32
     clear hEt32
     simp only[nn]
     refine gr (rs:= [4]) (gcB 4 (some 17) rfl rfl hqt32 (kk hqt32.fr) (fun x=>cu x) ?_ gn)
     intro Yt33 hqt33
     simp only[nn]
     refine gr (rs:= [8]) (gcB 8 (some 21) rfl rfl hqt33 (ks hqt33.fr (hqt33.hold 4 rfl)) (fun x=>cu x) ?_ gn)
     intro Yt34 hqt34
     simp only[nn]
     refine gr (rs:= [13]) (gcB 13 (some 26) rfl rfl hqt34 (kn (hqt34.hp 0 rfl) (hqt34.hold 5 rfl)) (fun x=>cu x) ?_ gn)
     intro Yt35 hqt35
     simp only[nn]
     refine gr (rs:= [14]) (Ax 14 (some 27) rfl rfl (by kernel_rfl) (Bs rfl rfl rfl rfl rfl) (Nat.succ_pos _) hqt35 (fun _ hZ=>cu hZ) ?_ gn)
     intro Yt36 Bt36 hEt36 hqt36
     clear hEt36
     simp only[nn]
     refine gr (rs:= [15]) (gcW 15 (some 28) rfl rfl (cu hqt36) (ko (hqt36.hold 6 rfl)) ?_ gn)
     refine gp 16 (some 12) (.int .i64 (orE [thE o h.l.length,Bh k,Aw [v,r],Ap h.l.length [v,r]])) rfl rfl (cu hqt36) ?_
     refine dn ?_
     try simp only[nn]
     exact pN ⟨_,_,_,rfl,cu hqt36⟩
   ·intro Yt38 Bt38 hEt38 hqt38
    clear hEt38
    simp only[nn]
    refine gr (rs:= [4,7]) (gcB 4 (some 17) rfl rfl hqt38 (kk hqt38.fr) (fun x=>cu x) ?_ (Ax 7 (some 20) rfl rfl (by kernel_rfl) (Dd rfl rfl rfl) (Nat.succ_pos _) hqt38 (fun _ hZ=>cu hZ) ?_ gn))
    ·intro Yt39 hqt39
     simp only[nn]
     refine gr (rs:= [7]) (Ax 7 (some 20) rfl rfl (by kernel_rfl) (Dd rfl rfl rfl) (Nat.succ_pos _) hqt39 (fun _ hZ=>cu hZ) ?_ gn)
     intro Yt40 Bt40 hEt40 hqt40
     clear hEt40
     simp only[nn]
     refine gr (rs:= [8]) (gcB 8 (some 21) rfl rfl hqt40 (ks hqt40.fr (hqt40.hold 5 rfl)) (fun x=>cu x) ?_ gn)
     intro Yt41 hqt41
     simp only[nn]
     refine gr (rs:= [13]) (gcB 13 (some 26) rfl rfl hqt41 (kn (hqt41.hp 0 rfl) (hqt41.hold 4 rfl)) (fun x=>cu x) ?_ gn)
     intro Yt42 hqt42
     simp only[nn]
     refine gr (rs:= [14]) (Ax 14 (some 27) rfl rfl (by kernel_rfl) (Bs rfl rfl rfl rfl rfl) (Nat.succ_pos _) hqt42 (fun _ hZ=>cu hZ) ?_ gn)
     intro Yt43 Bt43 hEt43 hqt43
     clear hEt43
     simp only[nn]
     refine gr (rs:= [15]) (gcW 15 (some 28) rfl rfl (cu hqt43) (ko (hqt43.hold 6 rfl)) ?_ gn)
     refine gp 16 (some 12) (.int .i64 (orE [thE o h.l.length,Bh k,Aw [v,r],Ap h.l.length [v,r]])) rfl rfl (cu hqt43) ?_
     refine dn ?_
     try simp only[nn]
     exact pN ⟨_,_,_,rfl,cu hqt43⟩
    ·intro Yt45 Bt45 hEt45 hqt45
     clear hEt45
     simp only[nn]
     refine gr (rs:= [4]) (gcB 4 (some 17) rfl rfl hqt45 (kk hqt45.fr) (fun x=>cu x) ?_ gn)
     intro Yt46 hqt46
     simp only[nn]
     refine gr (rs:= [8]) (gcB 8 (some 21) rfl rfl hqt46 (ks hqt46.fr (hqt46.hold 5 rfl)) (fun x=>cu x) ?_ gn)
     intro Yt47 hqt47
     simp only[nn]
     refine gr (rs:= [13]) (gcB 13 (some 26) rfl rfl hqt47 (kn (hqt47.hp 0 rfl) (hqt47.hold 4 rfl)) (fun x=>cu x) ?_ gn)
     intro Yt48 hqt48
     simp only[nn]
     refine gr (rs:= [14]) (Ax 14 (some 27) rfl rfl (by kernel_rfl) (Bs rfl rfl rfl rfl rfl) (Nat.succ_pos _) hqt48 (fun _ hZ=>cu hZ) ?_ gn)
     intro Yt49 Bt49 hEt49 hqt49
     clear hEt49
     simp only[nn]
     refine gr (rs:= [15]) (gcW 15 (some 28) rfl rfl (cu hqt49) (ko (hqt49.hold 6 rfl)) ?_ gn)
     refine gp 16 (some 12) (.int .i64 (orE [thE o h.l.length,Bh k,Aw [v,r],Ap h.l.length [v,r]])) rfl rfl (cu hqt49) ?_
     refine dn ?_
     try simp only[nn]
     exact pN ⟨_,_,_,rfl,cu hqt49⟩
  ·intro Yt51 Bt51 hEt51 hqt51
   clear hEt51
   simp only[nn]
   refine gr (rs:= [2,12]) (gcW 2 (some 15) rfl rfl (cu hqt51) (kt (hqt51.hp 0 rfl)) ?_ (Ax 12 (some 25) rfl rfl (by kernel_rfl) (Dd rfl rfl rfl) (Nat.succ_pos _) hqt51 (fun _ hZ=>cu hZ) ?_ gn))
   ·simp only[nn]
    refine gr (rs:= [4,12]) (gcB 4 (some 17) rfl rfl hqt51 (kk hqt51.fr) (fun x=>cu x) ?_ (Ax 12 (some 25) rfl rfl (by kernel_rfl) (Dd rfl rfl rfl) (Nat.succ_pos _) hqt51 (fun _ hZ=>cu hZ) ?_ gn))
    ·intro Yt53 hqt53
     simp only[nn]
     refine gr (rs:= [8,12]) (gcB 8 (some 21) rfl rfl hqt53 (ks hqt53.fr (hqt53.hold 4 rfl)) (fun x=>cu x) ?_ (Ax 12 (some 25) rfl rfl (by kernel_rfl) (Dd rfl rfl rfl) (Nat.succ_pos _) hqt53 (fun _ hZ=>cu hZ) ?_ gn))
     ·intro Yt54 hqt54
      simp only[nn]
      refine gr (rs:= [12]) (Ax 12 (some 25) rfl rfl (by kernel_rfl) (Dd rfl rfl rfl) (Nat.succ_pos _) hqt54 (fun _ hZ=>cu hZ) ?_ gn)
      intro Yt55 Bt55 hEt55 hqt55
      clear hEt55
      simp only[nn]
      refine gr (rs:= [13]) (gcB 13 (some 26) rfl rfl hqt55 (kn (hqt55.hp 0 rfl) (hqt55.hold 5 rfl)) (fun x=>cu x) ?_ gn)
      intro Yt56 hqt56
      simp only[nn]
      refine gr (rs:= [14]) (Ax 14 (some 27) rfl rfl (by kernel_rfl) (Bs rfl rfl rfl rfl rfl) (Nat.succ_pos _) hqt56 (fun _ hZ=>cu hZ) ?_ gn)
      intro Yt57 Bt57 hEt57 hqt57
      clear hEt57
      simp only[nn]
      refine gr (rs:= [15]) (gcW 15 (some 28) rfl rfl (cu hqt57) (ko (hqt57.hold 6 rfl)) ?_ gn)
      refine gp 16 (some 12) (.int .i64 (orE [thE o h.l.length,Bh k,Aw [v,r],Ap h.l.length [v,r]])) rfl rfl (cu hqt57) ?_
      refine dn ?_
      try simp only[nn]
      exact pN ⟨_,_,_,rfl,cu hqt57⟩
     ·intro Yt59 Bt59 hEt59 hqt59
      clear hEt59
      simp only[nn]
      refine gr (rs:= [8]) (gcB 8 (some 21) rfl rfl hqt59 (ks hqt59.fr (hqt59.hold 4 rfl)) (fun x=>cu x) ?_ gn)
      intro Yt60 hqt60
      simp only[nn]
      refine gr (rs:= [13]) (gcB 13 (some 26) rfl rfl hqt60 (kn (hqt60.hp 0 rfl) (hqt60.hold 5 rfl)) (fun x=>cu x) ?_ gn)
      intro Yt61 hqt61
      simp only[nn]
      refine gr (rs:= [14]) (Ax 14 (some 27) rfl rfl (by kernel_rfl) (Bs rfl rfl rfl rfl rfl) (Nat.succ_pos _) hqt61 (fun _ hZ=>cu hZ) ?_ gn)
      intro Yt62 Bt62 hEt62 hqt62
      clear hEt62
      simp only[nn]
      refine gr (rs:= [15]) (gcW 15 (some 28) rfl rfl (cu hqt62) (ko (hqt62.hold 6 rfl)) ?_ gn)
      refine gp 16 (some 12) (.int .i64 (orE [thE o h.l.length,Bh k,Aw [v,r],Ap h.l.length [v,r]])) rfl rfl (cu hqt62) ?_
      refine dn ?_
      try simp only[nn]
      exact pN ⟨_,_,_,rfl,cu hqt62⟩
    ·intro Yt64 Bt64 hEt64 hqt64
     clear hEt64
     simp only[nn]
     refine gr (rs:= [4]) (gcB 4 (some 17) rfl rfl hqt64 (kk hqt64.fr) (fun x=>cu x) ?_ gn)
     intro Yt65 hqt65
     simp only[nn]
     refine gr (rs:= [8]) (gcB 8 (some 21) rfl rfl hqt65 (ks hqt65.fr (hqt65.hold 4 rfl)) (fun x=>cu x) ?_ gn)
     intro Yt66 hqt66
     simp only[nn]
     refine gr (rs:= [13]) (gcB 13 (some 26) rfl rfl hqt66 (kn (hqt66.hp 0 rfl) (hqt66.hold 5 rfl)) (fun x=>cu x) ?_ gn)
     intro Yt67 hqt67
     simp only[nn]
     refine gr (rs:= [14]) (Ax 14 (some 27) rfl rfl (by kernel_rfl) (Bs rfl rfl rfl rfl rfl) (Nat.succ_pos _) hqt67 (fun _ hZ=>cu hZ) ?_ gn)
     intro Yt68 Bt68 hEt68 hqt68
     clear hEt68
     simp only[nn]
     refine gr (rs:= [15]) (gcW 15 (some 28) rfl rfl (cu hqt68) (ko (hqt68.hold 6 rfl)) ?_ gn)
     refine gp 16 (some 12) (.int .i64 (orE [thE o h.l.length,Bh k,Aw [v,r],Ap h.l.length [v,r]])) rfl rfl (cu hqt68) ?_
     refine dn ?_
     try simp only[nn]
     exact pN ⟨_,_,_,rfl,cu hqt68⟩
   ·intro Yt70 Bt70 hEt70 hqt70
    clear hEt70
    simp only[nn]
    refine gr (rs:= [2]) (gcW 2 (some 15) rfl rfl (cu hqt70) (kt (hqt70.hp 0 rfl)) ?_ gn)
    simp only[nn]
    refine gr (rs:= [4]) (gcB 4 (some 17) rfl rfl hqt70 (kk hqt70.fr) (fun x=>cu x) ?_ gn)
    intro Yt72 hqt72
    simp only[nn]
    refine gr (rs:= [8]) (gcB 8 (some 21) rfl rfl hqt72 (ks hqt72.fr (hqt72.hold 4 rfl)) (fun x=>cu x) ?_ gn)
    intro Yt73 hqt73
    simp only[nn]
    refine gr (rs:= [13]) (gcB 13 (some 26) rfl rfl hqt73 (kn (hqt73.hp 0 rfl) (hqt73.hold 5 rfl)) (fun x=>cu x) ?_ gn)
    intro Yt74 hqt74
    simp only[nn]
    refine gr (rs:= [14]) (Ax 14 (some 27) rfl rfl (by kernel_rfl) (Bs rfl rfl rfl rfl rfl) (Nat.succ_pos _) hqt74 (fun _ hZ=>cu hZ) ?_ gn)
    intro Yt75 Bt75 hEt75 hqt75
    clear hEt75
    simp only[nn]
    refine gr (rs:= [15]) (gcW 15 (some 28) rfl rfl (cu hqt75) (ko (hqt75.hold 6 rfl)) ?_ gn)
    refine gp 16 (some 12) (.int .i64 (orE [thE o h.l.length,Bh k,Aw [v,r],Ap h.l.length [v,r]])) rfl rfl (cu hqt75) ?_
    refine dn ?_
    try simp only[nn]
    exact pN ⟨_,_,_,rfl,cu hqt75⟩
  ·intro Yt77 Bt77 hEt77 hqt77
   clear hEt77
   simp only[nn]
   refine gr (rs:= [2,7]) (gcW 2 (some 15) rfl rfl (cu hqt77) (kt (hqt77.hp 0 rfl)) ?_ (Ax 7 (some 20) rfl rfl (by kernel_rfl) (Dd rfl rfl rfl) (Nat.succ_pos _) hqt77 (fun _ hZ=>cu hZ) ?_ gn))
   ·simp only[nn]
    refine gr (rs:= [4,7]) (gcB 4 (some 17) rfl rfl hqt77 (kk hqt77.fr) (fun x=>cu x) ?_ (Ax 7 (some 20) rfl rfl (by kernel_rfl) (Dd rfl rfl rfl) (Nat.succ_pos _) hqt77 (fun _ hZ=>cu hZ) ?_ gn))
    ·intro Yt79 hqt79
     simp only[nn]
     refine gr (rs:= [7]) (Ax 7 (some 20) rfl rfl (by kernel_rfl) (Dd rfl rfl rfl) (Nat.succ_pos _) hqt79 (fun _ hZ=>cu hZ) ?_ gn)
     intro Yt80 Bt80 hEt80 hqt80
     clear hEt80
     simp only[nn]
     refine gr (rs:= [8]) (gcB 8 (some 21) rfl rfl hqt80 (ks hqt80.fr (hqt80.hold 5 rfl)) (fun x=>cu x) ?_ gn)
     intro Yt81 hqt81
     simp only[nn]
     refine gr (rs:= [13]) (gcB 13 (some 26) rfl rfl hqt81 (kn (hqt81.hp 0 rfl) (hqt81.hold 4 rfl)) (fun x=>cu x) ?_ gn)
     intro Yt82 hqt82
     simp only[nn]
     refine gr (rs:= [14]) (Ax 14 (some 27) rfl rfl (by kernel_rfl) (Bs rfl rfl rfl rfl rfl) (Nat.succ_pos _) hqt82 (fun _ hZ=>cu hZ) ?_ gn)
     intro Yt83 Bt83 hEt83 hqt83
     clear hEt83
     simp only[nn]
     refine gr (rs:= [15]) (gcW 15 (some 28) rfl rfl (cu hqt83) (ko (hqt83.hold 6 rfl)) ?_ gn)
     refine gp 16 (some 12) (.int .i64 (orE [thE o h.l.length,Bh k,Aw [v,r],Ap h.l.length [v,r]])) rfl rfl (cu hqt83) ?_
     refine dn ?_
     try simp only[nn]
     exact pN ⟨_,_,_,rfl,cu hqt83⟩
    ·intro Yt85 Bt85 hEt85 hqt85
     clear hEt85
     simp only[nn]
     refine gr (rs:= [4]) (gcB 4 (some 17) rfl rfl hqt85 (kk hqt85.fr) (fun x=>cu x) ?_ gn)
     intro Yt86 hqt86
     simp only[nn]
     refine gr (rs:= [8]) (gcB 8 (some 21) rfl rfl hqt86 (ks hqt86.fr (hqt86.hold 5 rfl)) (fun x=>cu x) ?_ gn)
     intro Yt87 hqt87
     simp only[nn]
     refine gr (rs:= [13]) (gcB 13 (some 26) rfl rfl hqt87 (kn (hqt87.hp 0 rfl) (hqt87.hold 4 rfl)) (fun x=>cu x) ?_ gn)
     intro Yt88 hqt88
     simp only[nn]
     refine gr (rs:= [14]) (Ax 14 (some 27) rfl rfl (by kernel_rfl) (Bs rfl rfl rfl rfl rfl) (Nat.succ_pos _) hqt88 (fun _ hZ=>cu hZ) ?_ gn)
     intro Yt89 Bt89 hEt89 hqt89
     clear hEt89
     simp only[nn]
     refine gr (rs:= [15]) (gcW 15 (some 28) rfl rfl (cu hqt89) (ko (hqt89.hold 6 rfl)) ?_ gn)
     refine gp 16 (some 12) (.int .i64 (orE [thE o h.l.length,Bh k,Aw [v,r],Ap h.l.length [v,r]])) rfl rfl (cu hqt89) ?_
     refine dn ?_
     try simp only[nn]
     exact pN ⟨_,_,_,rfl,cu hqt89⟩
   ·intro Yt91 Bt91 hEt91 hqt91
    clear hEt91
    simp only[nn]
    refine gr (rs:= [2]) (gcW 2 (some 15) rfl rfl (cu hqt91) (kt (hqt91.hp 0 rfl)) ?_ gn)
    simp only[nn]
    refine gr (rs:= [4]) (gcB 4 (some 17) rfl rfl hqt91 (kk hqt91.fr) (fun x=>cu x) ?_ gn)
    intro Yt93 hqt93
    simp only[nn]
    refine gr (rs:= [8]) (gcB 8 (some 21) rfl rfl hqt93 (ks hqt93.fr (hqt93.hold 5 rfl)) (fun x=>cu x) ?_ gn)
    intro Yt94 hqt94
    simp only[nn]
    refine gr (rs:= [13]) (gcB 13 (some 26) rfl rfl hqt94 (kn (hqt94.hp 0 rfl) (hqt94.hold 4 rfl)) (fun x=>cu x) ?_ gn)
    intro Yt95 hqt95
    simp only[nn]
    refine gr (rs:= [14]) (Ax 14 (some 27) rfl rfl (by kernel_rfl) (Bs rfl rfl rfl rfl rfl) (Nat.succ_pos _) hqt95 (fun _ hZ=>cu hZ) ?_ gn)
    intro Yt96 Bt96 hEt96 hqt96
    clear hEt96
    simp only[nn]
    refine gr (rs:= [15]) (gcW 15 (some 28) rfl rfl (cu hqt96) (ko (hqt96.hold 6 rfl)) ?_ gn)
    refine gp 16 (some 12) (.int .i64 (orE [thE o h.l.length,Bh k,Aw [v,r],Ap h.l.length [v,r]])) rfl rfl (cu hqt96) ?_
    refine dn ?_
    try simp only[nn]
    exact pN ⟨_,_,_,rfl,cu hqt96⟩
 ·rintro a' X ⟨v20,v25,v27,rfl,hS9⟩
  simp only[nn]
  have SS:=Ab hS9
  clear hS9
  by_cases hc:orE [thE o h.l.length,Bh k,Aw [v,r],Ap h.l.length [v,r]]=0
  ·obtain⟨j,q,ho_,hj⟩:=Kl (h:=h) (o:=o) (Jh hc (thE o h.l.length) (by simp))
   have HO_:=Ab ho_
   clear ho_
   go_wp2_with (first|go_skip|((with_reducible show wpList ..);first|(refine rd rfl (Jl rfl rfl rfl hc) ?_)|(refine zL (k.cs) 45 2 1 rwK szK (by rfl) rfl rfl SS rfl rfl rfl ?_;simp only[nn])|(refine zL (v.cs) 26 5 2 rwV szV (by rfl) rfl rfl SS rfl rfl rfl ?_;simp only[nn])|(refine zL (r.cs) 26 5 3 rwV szV (by rfl) rfl rfl SS rfl rfl rfl ?_;simp only[nn])))
   have HC:=hC j q _ (Aa HO_) hj hc (HP.To.end H (Aa SS) rfl)
   rw[Dg,Db,Db] at HC
   rw[←Aa HO_] at HC
   refine HC.mono ?_
   rintro _ Y9 ⟨h1,y,er,rfl,hP,T9⟩
   replace SS:=Ab ((Aa SS).heap 0 rfl T9)
   have hb9:h1.b=h.b:=T9.hb
   clear T9 HC
   go_wp2
   go_ret2
   exact⟨h1,y,er,rfl, .inr ⟨hc,hP⟩,HP.To.end H (Aa SS) hb9⟩
  ·go_wp2_with (first|go_skip|((with_reducible show wpList ..);first|(refine rd rfl (Jy rfl rfl rfl hc) ?_)))
   go_ret2
   exact⟨h,false,_,rfl, .inl ⟨hc,rfl,rfl,rfl⟩,HP.To.end H (Aa SS) rfl⟩
theorem Zed (h:HP) (o:Int) (k:KK) (w:World) (H:h.Is w) (hl:h.l.length<=65536) (hT:Tabs w) (P:HP->Bool->Value->Prop) (hC: ∀(j:Nat) (q:OB) (X:World),o=(j:Int)+1->h.l[j]? =some q->orE [thE o h.l.length,Bh k]=0->h.To h w X->Calls Tryz.prog 47 #[.pointer (some ⟨h.b,0,none⟩), .int .i64 ((j:Int)+1),k.agg] X fun e w'=> ∃(h1:HP) (y:Bool) (er:Value),e= .returned (.tuple #[.bool y,er])/\P h1 y er/\h.To h1 X w'):Calls Tryz.prog 19 #[.pointer (some ⟨h.b,0,none⟩), .int .i64 o,k.agg] w fun e w'=> ∃(h1:HP) (y:Bool) (er:Value),e= .returned (.tuple #[.bool y,er])/\((orE [thE o h.l.length,Bh k]≠0/\er=Qp (orE [thE o h.l.length,Bh k])/\h1=h/\y=false)∨(orE [thE o h.l.length,Bh k]=0/\P h1 y er))/\h.To h1 w w':=by
 have SS:=Ab H.start
 rw[Dg]
 go_enter Tryz.func19,Tryz.ntmps19
 go_wp2_with (first|go_skip|((with_reducible show wpList ..);first|(refine zB 45 (k.cs) (by rfl) rfl rfl rfl SS ?_;clear SS;intro Xp0 Bp0 SS;simp only[nn])))
 have kt:=fun {X:World} (s:h.Is X)=>Je h o X s
 have kk:=fun {X:World} (s:Fr w X h.blocks)=>Lu k X (hT.fr s H.low).1
 have ko:=fun {X:World} {B:Nat} (g:Holds X B (Md [thE o h.l.length,Bh k]))=>Lt B 2 [thE o h.l.length,Bh k] X g (by simp)
 have hS1:Sy w _ h.blocks [hpO h,Ao Bp0 k.cs]:=(Aa SS).drew
 clear SS
 refine Gd (fun a a' X=> ∃(v14:Value),a'=((((((((a.put (some 9) (.pointer (some ⟨h.b,0,none⟩))).put (some 10) (.int .i64 o)).put (some 11) (.int .i64 (thE o h.l.length))).put (some 12) (.agg k.cs.toArray)).put (some 13) (.int .i64 (Bh k))).put (some 14) v14).put (some 15) (.int .i64 (orE [thE o h.l.length,Bh k]))).put (some 8) (.int .i64 (orE [thE o h.l.length,Bh k])))/\Sy w X h.blocks [hpO h,Ao Bp0 k.cs]) ?_ ?_
 ·refine wp_region_held_drew (P:=Tryz.prog) (S:=fun X=>Sy w X h.blocks _) (by kernel_rfl) (hS1) (fun hS0=> ?_)
  refine gp 0 (some 9) (.pointer (some ⟨h.b,0,none⟩)) rfl rfl (hS1) ?_
  refine gp 1 (some 10) (.int .i64 o) rfl rfl (hS1) ?_
  refine gq 3 (some 12) (.agg k.cs.toArray) rfl rfl (fun X hX=>Am (vs:=k.cs) 45 2 rwK szK rfl rfl (hX.hold 1 rfl) rfl rfl) (hS1) ?_
  refine gr (rs:= [2]) (gcW 2 (some 11) rfl rfl (hS1) (kt (hS1.hp 0 rfl)) ?_ gn)
  simp only[nn]
  refine gr (rs:= [4]) (gcB 4 (some 13) rfl rfl hS1 (kk hS1.fr) id ?_ gn)
  intro Yt2 hqt2
  simp only[nn]
  refine gr (rs:= [5]) (Ax 5 (some 14) rfl rfl (by kernel_rfl) (ZaI rfl rfl rfl) (Nat.succ_pos _) hqt2 (fun _ hZ=>Sy.left (L:= [_,_]) (M:= [_]) hZ) ?_ gn)
  intro Yt3 Bt3 hEt3 hqt3
  clear hEt3
  simp only[nn]
  refine gr (rs:= [6]) (gcW 6 (some 15) rfl rfl (Sy.left (L:= [_,_]) (M:= [_]) hqt3) (ko (hqt3.hold 2 rfl)) ?_ gn)
  refine gp 7 (some 8) (.int .i64 (orE [thE o h.l.length,Bh k])) rfl rfl (Sy.left (L:= [_,_]) (M:= [_]) hqt3) ?_
  refine dn ?_
  try simp only[nn]
  exact pN ⟨_,rfl,Sy.left (L:= [_,_]) (M:= [_]) hqt3⟩
 ·rintro a' X ⟨v14,rfl,hS9⟩
  simp only[nn]
  have SS:=Ab hS9
  clear hS9
  by_cases hc:orE [thE o h.l.length,Bh k]=0
  ·obtain⟨j,q,ho_,hj⟩:=Kl (h:=h) (o:=o) (Jh hc (thE o h.l.length) (by simp))
   have HO_:=Ab ho_
   clear ho_
   go_wp2_with (first|go_skip|((with_reducible show wpList ..);first|(refine rd rfl (Jl rfl rfl rfl hc) ?_)|(refine zL (k.cs) 45 2 1 rwK szK (by rfl) rfl rfl SS rfl rfl rfl ?_;simp only[nn])))
   have HC:=hC j q _ (Aa HO_) hj hc (HP.To.end H (Aa SS) rfl)
   rw[Dg] at HC
   rw[←Aa HO_] at HC
   refine HC.mono ?_
   rintro _ Y9 ⟨h1,y,er,rfl,hP,T9⟩
   replace SS:=Ab ((Aa SS).heap 0 rfl T9)
   have hb9:h1.b=h.b:=T9.hb
   clear T9 HC
   go_wp2
   go_ret2
   exact⟨h1,y,er,rfl, .inr ⟨hc,hP⟩,HP.To.end H (Aa SS) hb9⟩
  ·go_wp2_with (first|go_skip|((with_reducible show wpList ..);first|(refine rd rfl (Jy rfl rfl rfl hc) ?_)))
   go_ret2
   exact⟨h,false,_,rfl, .inl ⟨hc,rfl,rfl,rfl⟩,HP.To.end H (Aa SS) rfl⟩
end
section
open Go Go.Proofs Go.Maps Go.RowKit FM Tryz
attribute [local go_sem] Ak Ae Aq Dl Dk Bl Af Aj Ad Bj Et Es
theorem Nm (h:HP) (o:Int)  (w:World) (H:h.Is w) (hl:h.l.length<=65536) (hT:Tabs w) (P:HP->Bool->Value->Prop) (hC: ∀(j:Nat) (q:OB) (X:World),o=(j:Int)+1->h.l[j]? =some q->thE o h.l.length=0->h.To h w X->Calls prog 50 #[.pointer (some ⟨h.b,0,none⟩), .int .i64 ((j:Int)+1)] X fun e w'=> ∃(h1:HP) (y:Bool) (er:Value),e= .returned (.tuple #[.bool y,er])/\P h1 y er/\h.To h1 X w'):Calls prog 21 #[.pointer (some ⟨h.b,0,none⟩), .int .i64 o] w fun e w'=> ∃(h1:HP) (y:Bool) (er:Value),e= .returned (.tuple #[.bool y,er])/\((thE o h.l.length≠0/\er=Qp (thE o h.l.length)/\h1=h/\y=false)∨(thE o h.l.length=0/\P h1 y er))/\h.To h1 w w':=by
 have SS:=Ab H.start
 go_enter func21,ntmps21
 go_wp2_with fail
 refine(Je h _ _ ((Aa SS).hp 0 rfl)).mono ?_
 rintro _ _ ⟨rfl,rfl⟩
 by_cases hc:thE o h.l.length=0
 ·obtain⟨j,q,ho_,hj⟩:=Kl hc
  have HO_:=Ab ho_
  clear ho_
  go_wp2_with (first|go_skip|((with_reducible show wpList ..);first|(refine rd rfl (Jl rfl rfl rfl hc) ?_)))
  have HC:=hC j q _ (Aa HO_) hj hc (HP.To.end H (Aa SS) rfl)
  rw[←Aa HO_] at HC
  refine HC.mono ?_
  rintro _ Y9 ⟨h1,y,er,rfl,hP,T9⟩
  replace SS:=Ab ((Aa SS).heap 0 rfl T9)
  have hb9:h1.b=h.b:=T9.hb
  clear T9 HC
  go_wp2
  go_ret2
  exact⟨h1,y,er,rfl, .inr ⟨hc,hP⟩,HP.To.end H (Aa SS) hb9⟩
 ·go_wp2_with (first|go_skip|((with_reducible show wpList ..);first|(refine rd rfl (Jy rfl rfl rfl hc) ?_)))
  go_ret2
  exact⟨h,false,_,rfl, .inl ⟨hc,rfl,rfl,rfl⟩,HP.To.end H (Aa SS) rfl⟩
theorem Yk (h:HP) (o:Int) (k:KK) (w:World) (H:h.Is w) (hl:h.l.length<=65536) (hT:Tabs w) (P:HP->Bool->Value->Prop) (hC: ∀(j:Nat) (q:OB) (X:World),o=(j:Int)+1->h.l[j]? =some q->orE [thE o h.l.length,Bh k]=0->h.To h w X->Calls prog 52 #[.pointer (some ⟨h.b,0,none⟩), .int .i64 ((j:Int)+1),k.agg] X fun e w'=> ∃(h1:HP) (y:Bool) (er:Value),e= .returned (.tuple #[.bool y,er])/\P h1 y er/\h.To h1 X w'):Calls prog 23 #[.pointer (some ⟨h.b,0,none⟩), .int .i64 o,k.agg] w fun e w'=> ∃(h1:HP) (y:Bool) (er:Value),e= .returned (.tuple #[.bool y,er])/\((orE [thE o h.l.length,Bh k]≠0/\er=Qp (orE [thE o h.l.length,Bh k])/\h1=h/\y=false)∨(orE [thE o h.l.length,Bh k]=0/\P h1 y er))/\h.To h1 w w':=by
 have SS:=Ab H.start
 rw[Dg]
 go_enter func23,ntmps23
 go_wp2_with (first|go_skip|((with_reducible show wpList ..);first|(refine zB 45 (k.cs) (by rfl) rfl rfl rfl SS ?_;clear SS;intro Xp0 Bp0 SS;simp only[nn])))
 have kt:=fun {X:World} (s:h.Is X)=>Je h o X s
 have kk:=fun {X:World} (s:Fr w X h.blocks)=>Lu k X (hT.fr s H.low).1
 have ko:=fun {X:World} {B:Nat} (g:Holds X B (Md [thE o h.l.length,Bh k]))=>Lt B 2 [thE o h.l.length,Bh k] X g (by simp)
 have hS1:Sy w _ h.blocks [hpO h,Ao Bp0 k.cs]:=(Aa SS).drew
 clear SS
 refine Gd (fun a a' X=> ∃(v14:Value),a'=((((((((a.put (some 9) (.pointer (some ⟨h.b,0,none⟩))).put (some 10) (.int .i64 o)).put (some 11) (.int .i64 (thE o h.l.length))).put (some 12) (.agg k.cs.toArray)).put (some 13) (.int .i64 (Bh k))).put (some 14) v14).put (some 15) (.int .i64 (orE [thE o h.l.length,Bh k]))).put (some 8) (.int .i64 (orE [thE o h.l.length,Bh k])))/\Sy w X h.blocks [hpO h,Ao Bp0 k.cs]) ?_ ?_
 ·refine wp_region_held_drew (P:=prog) (S:=fun X=>Sy w X h.blocks _) (by kernel_rfl) (hS1) (fun hS0=> ?_)
  refine gp 0 (some 9) (.pointer (some ⟨h.b,0,none⟩)) rfl rfl (hS1) ?_
  refine gp 1 (some 10) (.int .i64 o) rfl rfl (hS1) ?_
  refine gq 3 (some 12) (.agg k.cs.toArray) rfl rfl (fun X hX=>Am (vs:=k.cs) 45 2 rwK szK rfl rfl (hX.hold 1 rfl) rfl rfl) (hS1) ?_
  refine gr (rs:= [2]) (gcW 2 (some 11) rfl rfl (hS1) (kt (hS1.hp 0 rfl)) ?_ gn)
  simp only[nn]
  refine gr (rs:= [4]) (gcB 4 (some 13) rfl rfl hS1 (kk hS1.fr) id ?_ gn)
  intro Yt2 hqt2
  simp only[nn]
  refine gr (rs:= [5]) (Ax 5 (some 14) rfl rfl (by kernel_rfl) (ZaI rfl rfl rfl) (Nat.succ_pos _) hqt2 (fun _ hZ=>Sy.left (L:= [_,_]) (M:= [_]) hZ) ?_ gn)
  intro Yt3 Bt3 hEt3 hqt3
  clear hEt3
  simp only[nn]
  refine gr (rs:= [6]) (gcW 6 (some 15) rfl rfl (Sy.left (L:= [_,_]) (M:= [_]) hqt3) (ko (hqt3.hold 2 rfl)) ?_ gn)
  refine gp 7 (some 8) (.int .i64 (orE [thE o h.l.length,Bh k])) rfl rfl (Sy.left (L:= [_,_]) (M:= [_]) hqt3) ?_
  refine dn ?_
  try simp only[nn]
  exact pN ⟨_,rfl,Sy.left (L:= [_,_]) (M:= [_]) hqt3⟩
 ·rintro a' X ⟨v14,rfl,hS9⟩
  simp only[nn]
  have SS:=Ab hS9
  clear hS9
  by_cases hc:orE [thE o h.l.length,Bh k]=0
  ·obtain⟨j,q,ho_,hj⟩:=Kl (h:=h) (o:=o) (Jh hc (thE o h.l.length) (by simp))
   have HO_:=Ab ho_
   clear ho_
   go_wp2_with (first|go_skip|((with_reducible show wpList ..);first|(refine rd rfl (Jl rfl rfl rfl hc) ?_)|(refine zL (k.cs) 45 2 1 rwK szK (by rfl) rfl rfl SS rfl rfl rfl ?_;simp only[nn])))
   have HC:=hC j q _ (Aa HO_) hj hc (HP.To.end H (Aa SS) rfl)
   rw[Dg] at HC
   rw[←Aa HO_] at HC
   refine HC.mono ?_
   rintro _ Y9 ⟨h1,y,er,rfl,hP,T9⟩
   replace SS:=Ab ((Aa SS).heap 0 rfl T9)
   have hb9:h1.b=h.b:=T9.hb
   clear T9 HC
   go_wp2
   go_ret2
   exact⟨h1,y,er,rfl, .inr ⟨hc,hP⟩,HP.To.end H (Aa SS) hb9⟩
  ·go_wp2_with (first|go_skip|((with_reducible show wpList ..);first|(refine rd rfl (Jy rfl rfl rfl hc) ?_)))
   go_ret2
   exact⟨h,false,_,rfl, .inl ⟨hc,rfl,rfl,rfl⟩,HP.To.end H (Aa SS) rfl⟩
end
section
open Go Go.Proofs Go.Maps Go.RowKit FM
attribute [local go_sem] Ak Ae Aq Dl Dk Bl Af Aj Ad Bj Et Es
theorem Qq (h:HP) (o:Int) (v:VV) (w:World) (H:h.Is w) (hl:h.l.length<=65536) (hT:Tabs w) (P:HP->Bool->Value->Prop) (hC: ∀(j:Nat) (q:OB) (X:World),o=(j:Int)+1->h.l[j]? =some q->orE [thE o h.l.length,Aw [v],Ap h.l.length [v],Dr v]=0->h.To h w X->Calls Tryz.prog 49 #[.pointer (some ⟨h.b,0,none⟩), .int .i64 ((j:Int)+1),v.agg] X fun e w'=> ∃(h1:HP) (y:Bool) (er:Value),e= .returned (.tuple #[.bool y,er])/\P h1 y er/\h.To h1 X w'):Calls Tryz.prog 20 #[.pointer (some ⟨h.b,0,none⟩), .int .i64 o,v.agg] w fun e w'=> ∃(h1:HP) (y:Bool) (er:Value),e= .returned (.tuple #[.bool y,er])/\((orE [thE o h.l.length,Aw [v],Ap h.l.length [v],Dr v]≠0/\er=Qp (orE [thE o h.l.length,Aw [v],Ap h.l.length [v],Dr v])/\h1=h/\y=false)∨(orE [thE o h.l.length,Aw [v],Ap h.l.length [v],Dr v]=0/\P h1 y er))/\h.To h1 w w':=by
 have SS:=Ab H.start
 rw[Db]
 go_enter Tryz.func20,Tryz.ntmps20
 go_wp2_with (first|go_skip|((with_reducible show wpList ..);first|(refine zB 26 (v.cs) (by rfl) rfl rfl rfl SS ?_;clear SS;intro Xp0 Bp0 SS;simp only[nn])))
 have kt:=fun {X:World} (s:h.Is X)=>Je h o X s
 have ks:=fun {X:World} {B:Nat} (s:Fr w X h.blocks) (g:Holds X B ([v].flatMap VV.cs))=>Ut (some ⟨B,0,none⟩) 1 [v] X (hT.fr s H.low).1 (Ec g) (by simp)
 have kn:=fun {X:World} {B:Nat} (s:h.Is X) (g:Holds X B ([v].flatMap VV.cs))=>Ny h (some ⟨B,0,none⟩) 1 [v] X s (Ec g) (by simp)
 have ko:=fun {X:World} {B:Nat} (g:Holds X B (Md [thE o h.l.length,Aw [v],Ap h.l.length [v],Dr v]))=>Lt B 4 [thE o h.l.length,Aw [v],Ap h.l.length [v],Dr v] X g (by simp)
 have hS1:Sy w _ h.blocks [hpO h,Ao Bp0 v.cs]:=(Aa SS).drew
 clear SS
 refine Gd (fun a a' X=> ∃(v13 v17 v21:Value),a'=(((((((((((((((a.put (some 9) (.pointer (some ⟨h.b,0,none⟩))).put (some 10) (.int .i64 o)).put (some 11) (.int .i64 (thE o h.l.length))).put (some 12) (.agg (v.cs).toArray)).put (some 13) v13).put (some 14) (.int .i64 (Aw [v]))).put (some 15) (.pointer (some ⟨h.b,0,none⟩))).put (some 16) (.agg (v.cs).toArray)).put (some 17) v17).put (some 18) (.int .i64 (Ap h.l.length [v]))).put (some 19) (.agg (v.cs).toArray)).put (some 20) (.int .i64 (Dr v))).put (some 21) v21).put (some 22) (.int .i64 (orE [thE o h.l.length,Aw [v],Ap h.l.length [v],Dr v]))).put (some 8) (.int .i64 (orE [thE o h.l.length,Aw [v],Ap h.l.length [v],Dr v])))/\Sy w X h.blocks [hpO h,Ao Bp0 v.cs]) ?_ ?_
 ·have cu: ∀{X:World} {M:List Ob},Sy w X h.blocks ([hpO h,Ao Bp0 v.cs]++M)->Sy w X h.blocks [hpO h,Ao Bp0 v.cs]:=fun h=>Sy.left h
  refine wp_region_held_drew (P:=Tryz.prog) (S:=fun X=>Sy w X h.blocks _) (by kernel_rfl) (hS1) (fun hS0=> ?_)
  refine gp 0 (some 9) (.pointer (some ⟨h.b,0,none⟩)) rfl rfl (hS1) ?_
  refine gp 1 (some 10) (.int .i64 o) rfl rfl (hS1) ?_
  refine gq 3 (some 12) (.agg (v.cs).toArray) rfl rfl (fun X hX=>Am (vs:=v.cs) 26 5 rwV szV rfl rfl (hX.hold 1 rfl) rfl rfl) (hS1) ?_
  refine gp 6 (some 15) (.pointer (some ⟨h.b,0,none⟩)) rfl rfl (hS1) ?_
  refine gq 7 (some 16) (.agg (v.cs).toArray) rfl rfl (fun X hX=>Am (vs:=v.cs) 26 5 rwV szV rfl rfl (hX.hold 1 rfl) rfl rfl) (hS1) ?_
  refine gq 10 (some 19) (.agg (v.cs).toArray) rfl rfl (fun X hX=>Am (vs:=v.cs) 26 5 rwV szV rfl rfl (hX.hold 1 rfl) rfl rfl) (hS1) ?_
  refine gr (rs:= [2,4,8]) (gcW 2 (some 11) rfl rfl (hS1) (kt (hS1.hp 0 rfl)) ?_ (Ax 4 (some 13) rfl rfl (by kernel_rfl) (Bq rfl rfl) (Nat.succ_pos _) hS1 (fun _ hZ=>cu hZ) ?_ (Ax 8 (some 17) rfl rfl (by kernel_rfl) (Bq rfl rfl) (Nat.succ_pos _) hS1 (fun _ hZ=>cu hZ) ?_ gn)))
  ·simp only[nn]
   refine gr (rs:= [4,8]) (Ax 4 (some 13) rfl rfl (by kernel_rfl) (Bq rfl rfl) (Nat.succ_pos _) hS1 (fun _ hZ=>cu hZ) ?_ (Ax 8 (some 17) rfl rfl (by kernel_rfl) (Bq rfl rfl) (Nat.succ_pos _) hS1 (fun _ hZ=>cu hZ) ?_ gn))
   ·intro Yt2 Bt2 hEt2 hqt2
    clear hEt2
    simp only[nn]
    refine gr (rs:= [5,8]) (gcB 5 (some 14) rfl rfl hqt2 (ks hqt2.fr (hqt2.hold 2 rfl)) (fun x=>cu x) ?_ (Ax 8 (some 17) rfl rfl (by kernel_rfl) (Bq rfl rfl) (Nat.succ_pos _) hqt2 (fun _ hZ=>cu hZ) ?_ gn))
    ·intro Yt3 hqt3
     simp only[nn]
     refine gr (rs:= [8]) (Ax 8 (some 17) rfl rfl (by kernel_rfl) (Bq rfl rfl) (Nat.succ_pos _) hqt3 (fun _ hZ=>cu hZ) ?_ gn)
     intro Yt4 Bt4 hEt4 hqt4
     clear hEt4
     simp only[nn]
     refine gr (rs:= [9]) (gcB 9 (some 18) rfl rfl hqt4 (kn (hqt4.hp 0 rfl) (hqt4.hold 3 rfl)) (fun x=>cu x) ?_ gn)
     intro Yt5 hqt5
     simp only[nn]
     refine gr (rs:= [11]) (gcB 11 (some 20) rfl rfl hqt5 (Dx v _) (fun x=>cu x) ?_ gn)
     intro Yt6 hqt6
     simp only[nn]
     refine gr (rs:= [12]) (Ax 12 (some 21) rfl rfl (by kernel_rfl) (Bs rfl rfl rfl rfl rfl) (Nat.succ_pos _) hqt6 (fun _ hZ=>cu hZ) ?_ gn)
     intro Yt7 Bt7 hEt7 hqt7
     clear hEt7
     simp only[nn]
     refine gr (rs:= [13]) (gcW 13 (some 22) rfl rfl (cu hqt7) (ko (hqt7.hold 4 rfl)) ?_ gn)
     refine gp 14 (some 8) (.int .i64 (orE [thE o h.l.length,Aw [v],Ap h.l.length [v],Dr v])) rfl rfl (cu hqt7) ?_
     refine dn ?_
     try simp only[nn]
     exact pN ⟨_,_,_,rfl,cu hqt7⟩
    ·intro Yt9 Bt9 hEt9 hqt9
     clear hEt9
     simp only[nn]
     refine gr (rs:= [5]) (gcB 5 (some 14) rfl rfl hqt9 (ks hqt9.fr (hqt9.hold 2 rfl)) (fun x=>cu x) ?_ gn)
     intro Yt10 hqt10
     simp only[nn]
     refine gr (rs:= [9]) (gcB 9 (some 18) rfl rfl hqt10 (kn (hqt10.hp 0 rfl) (hqt10.hold 3 rfl)) (fun x=>cu x) ?_ gn)
     intro Yt11 hqt11
     simp only[nn]
     refine gr (rs:= [11]) (gcB 11 (some 20) rfl rfl hqt11 (Dx v _) (fun x=>cu x) ?_ gn)
     intro Yt12 hqt12
     simp only[nn]
     refine gr (rs:= [12]) (Ax 12 (some 21) rfl rfl (by kernel_rfl) (Bs rfl rfl rfl rfl rfl) (Nat.succ_pos _) hqt12 (fun _ hZ=>cu hZ) ?_ gn)
     intro Yt13 Bt13 hEt13 hqt13
     clear hEt13
     simp only[nn]
     refine gr (rs:= [13]) (gcW 13 (some 22) rfl rfl (cu hqt13) (ko (hqt13.hold 4 rfl)) ?_ gn)
     refine gp 14 (some 8) (.int .i64 (orE [thE o h.l.length,Aw [v],Ap h.l.length [v],Dr v])) rfl rfl (cu hqt13) ?_
     refine dn ?_
     try simp only[nn]
     exact pN ⟨_,_,_,rfl,cu hqt13⟩
   ·intro Yt15 Bt15 hEt15 hqt15
    clear hEt15
    simp only[nn]
    refine gr (rs:= [4]) (Ax 4 (some 13) rfl rfl (by kernel_rfl) (Bq rfl rfl) (Nat.succ_pos _) hqt15 (fun _ hZ=>cu hZ) ?_ gn)
    intro Yt16 Bt16 hEt16 hqt16
    clear hEt16
    simp only[nn]
    refine gr (rs:= [5]) (gcB 5 (some 14) rfl rfl hqt16 (ks hqt16.fr (hqt16.hold 3 rfl)) (fun x=>cu x) ?_ gn)
    intro Yt17 hqt17
    simp only[nn]
    refine gr (rs:= [9]) (gcB 9 (some 18) rfl rfl hqt17 (kn (hqt17.hp 0 rfl) (hqt17.hold 2 rfl)) (fun x=>cu x) ?_ gn)
    intro Yt18 hqt18
    simp only[nn]
    refine gr (rs:= [11]) (gcB 11 (some 20) rfl rfl hqt18 (Dx v _) (fun x=>cu x) ?_ gn)
    intro Yt19 hqt19
    simp only[nn]
    refine gr (rs:= [12]) (Ax 12 (some 21) rfl rfl (by kernel_rfl) (Bs rfl rfl rfl rfl rfl) (Nat.succ_pos _) hqt19 (fun _ hZ=>cu hZ) ?_ gn)
    intro Yt20 Bt20 hEt20 hqt20
    clear hEt20
    simp only[nn]
    refine gr (rs:= [13]) (gcW 13 (some 22) rfl rfl (cu hqt20) (ko (hqt20.hold 4 rfl)) ?_ gn)
    refine gp 14 (some 8) (.int .i64 (orE [thE o h.l.length,Aw [v],Ap h.l.length [v],Dr v])) rfl rfl (cu hqt20) ?_
    refine dn ?_
    try simp only[nn]
    exact pN ⟨_,_,_,rfl,cu hqt20⟩
  ·intro Yt22 Bt22 hEt22 hqt22
   clear hEt22
   simp only[nn]
   refine gr (rs:= [2,8]) (gcW 2 (some 11) rfl rfl (cu hqt22) (kt (hqt22.hp 0 rfl)) ?_ (Ax 8 (some 17) rfl rfl (by kernel_rfl) (Bq rfl rfl) (Nat.succ_pos _) hqt22 (fun _ hZ=>cu hZ) ?_ gn))
   ·simp only[nn]
    refine gr (rs:= [5,8]) (gcB 5 (some 14) rfl rfl hqt22 (ks hqt22.fr (hqt22.hold 2 rfl)) (fun x=>cu x) ?_ (Ax 8 (some 17) rfl rfl (by kernel_rfl) (Bq rfl rfl) (Nat.succ_pos _) hqt22 (fun _ hZ=>cu hZ) ?_ gn))
    ·intro Yt24 hqt24
     simp only[nn]
     refine gr (rs:= [8]) (Ax 8 (some 17) rfl rfl (by kernel_rfl) (Bq rfl rfl) (Nat.succ_pos _) hqt24 (fun _ hZ=>cu hZ) ?_ gn)
     intro Yt25 Bt25 hEt25 hqt25
     clear hEt25
     simp only[nn]
     refine gr (rs:= [9]) (gcB 9 (some 18) rfl rfl hqt25 (kn (hqt25.hp 0 rfl) (hqt25.hold 3 rfl)) (fun x=>cu x) ?_ gn)
     intro Yt26 hqt26
     simp only[nn]
     refine gr (rs:= [11]) (gcB 11 (some 20) rfl rfl hqt26 (Dx v _) (fun x=>cu x) ?_ gn)
     intro Yt27 hqt27
     simp only[nn]
     refine gr (rs:= [12]) (Ax 12 (some 21) rfl rfl (by kernel_rfl) (Bs rfl rfl rfl rfl rfl) (Nat.succ_pos _) hqt27 (fun _ hZ=>cu hZ) ?_ gn)
     intro Yt28 Bt28 hEt28 hqt28
     clear hEt28
     simp only[nn]
     refine gr (rs:= [13]) (gcW 13 (some 22) rfl rfl (cu hqt28) (ko (hqt28.hold 4 rfl)) ?_ gn)
     refine gp 14 (some 8) (.int .i64 (orE [thE o h.l.length,Aw [v],Ap h.l.length [v],Dr v])) rfl rfl (cu hqt28) ?_
     refine dn ?_
     try simp only[nn]
     exact pN ⟨_,_,_,rfl,cu hqt28⟩
    ·intro Yt30 Bt30 hEt30 hqt30
     clear hEt30
     simp only[nn]
     refine gr (rs:= [5]) (gcB 5 (some 14) rfl rfl hqt30 (ks hqt30.fr (hqt30.hold 2 rfl)) (fun x=>cu x) ?_ gn)
     intro Yt31 hqt31
     simp only[nn]
     refine gr (rs:= [9]) (gcB 9 (some 18) rfl rfl hqt31 (kn (hqt31.hp 0 rfl) (hqt31.hold 3 rfl)) (fun x=>cu x) ?_ gn)
     intro Yt32 hqt32
     simp only[nn]
     refine gr (rs:= [11]) (gcB 11 (some 20) rfl rfl hqt32 (Dx v _) (fun x=>cu x) ?_ gn)
     intro Yt33 hqt33
     simp only[nn]
     refine gr (rs:= [12]) (Ax 12 (some 21) rfl rfl (by kernel_rfl) (Bs rfl rfl rfl rfl rfl) (Nat.succ_pos _) hqt33 (fun _ hZ=>cu hZ) ?_ gn)
     intro Yt34 Bt34 hEt34 hqt34
     clear hEt34
     simp only[nn]
     refine gr (rs:= [13]) (gcW 13 (some 22) rfl rfl (cu hqt34) (ko (hqt34.hold 4 rfl)) ?_ gn)
     refine gp 14 (some 8) (.int .i64 (orE [thE o h.l.length,Aw [v],Ap h.l.length [v],Dr v])) rfl rfl (cu hqt34) ?_
     refine dn ?_
     try simp only[nn]
     exact pN ⟨_,_,_,rfl,cu hqt34⟩
   ·intro Yt36 Bt36 hEt36 hqt36
    clear hEt36
    simp only[nn]
    refine gr (rs:= [2]) (gcW 2 (some 11) rfl rfl (cu hqt36) (kt (hqt36.hp 0 rfl)) ?_ gn)
    simp only[nn]
    refine gr (rs:= [5]) (gcB 5 (some 14) rfl rfl hqt36 (ks hqt36.fr (hqt36.hold 2 rfl)) (fun x=>cu x) ?_ gn)
    intro Yt38 hqt38
    simp only[nn]
    refine gr (rs:= [9]) (gcB 9 (some 18) rfl rfl hqt38 (kn (hqt38.hp 0 rfl) (hqt38.hold 3 rfl)) (fun x=>cu x) ?_ gn)
    intro Yt39 hqt39
    simp only[nn]
    refine gr (rs:= [11]) (gcB 11 (some 20) rfl rfl hqt39 (Dx v _) (fun x=>cu x) ?_ gn)
    intro Yt40 hqt40
    simp only[nn]
    refine gr (rs:= [12]) (Ax 12 (some 21) rfl rfl (by kernel_rfl) (Bs rfl rfl rfl rfl rfl) (Nat.succ_pos _) hqt40 (fun _ hZ=>cu hZ) ?_ gn)
    intro Yt41 Bt41 hEt41 hqt41
    clear hEt41
    simp only[nn]
    refine gr (rs:= [13]) (gcW 13 (some 22) rfl rfl (cu hqt41) (ko (hqt41.hold 4 rfl)) ?_ gn)
    refine gp 14 (some 8) (.int .i64 (orE [thE o h.l.length,Aw [v],Ap h.l.length [v],Dr v])) rfl rfl (cu hqt41) ?_
    refine dn ?_
    try simp only[nn]
    exact pN ⟨_,_,_,rfl,cu hqt41⟩
  ·intro Yt43 Bt43 hEt43 hqt43
   clear hEt43
   simp only[nn]
   refine gr (rs:= [2,4]) (gcW 2 (some 11) rfl rfl (cu hqt43) (kt (hqt43.hp 0 rfl)) ?_ (Ax 4 (some 13) rfl rfl (by kernel_rfl) (Bq rfl rfl) (Nat.succ_pos _) hqt43 (fun _ hZ=>cu hZ) ?_ gn))
   ·simp only[nn]
    refine gr (rs:= [4]) (Ax 4 (some 13) rfl rfl (by kernel_rfl) (Bq rfl rfl) (Nat.succ_pos _) hqt43 (fun _ hZ=>cu hZ) ?_ gn)
    intro Yt45 Bt45 hEt45 hqt45
    clear hEt45
    simp only[nn]
    refine gr (rs:= [5]) (gcB 5 (some 14) rfl rfl hqt45 (ks hqt45.fr (hqt45.hold 3 rfl)) (fun x=>cu x) ?_ gn)
    intro Yt46 hqt46
    simp only[nn]
    refine gr (rs:= [9]) (gcB 9 (some 18) rfl rfl hqt46 (kn (hqt46.hp 0 rfl) (hqt46.hold 2 rfl)) (fun x=>cu x) ?_ gn)
    intro Yt47 hqt47
    simp only[nn]
    refine gr (rs:= [11]) (gcB 11 (some 20) rfl rfl hqt47 (Dx v _) (fun x=>cu x) ?_ gn)
    intro Yt48 hqt48
    simp only[nn]
    refine gr (rs:= [12]) (Ax 12 (some 21) rfl rfl (by kernel_rfl) (Bs rfl rfl rfl rfl rfl) (Nat.succ_pos _) hqt48 (fun _ hZ=>cu hZ) ?_ gn)
    intro Yt49 Bt49 hEt49 hqt49
    clear hEt49
    simp only[nn]
    refine gr (rs:= [13]) (gcW 13 (some 22) rfl rfl (cu hqt49) (ko (hqt49.hold 4 rfl)) ?_ gn)
    refine gp 14 (some 8) (.int .i64 (orE [thE o h.l.length,Aw [v],Ap h.l.length [v],Dr v])) rfl rfl (cu hqt49) ?_
    refine dn ?_
    try simp only[nn]
    exact pN ⟨_,_,_,rfl,cu hqt49⟩
   ·intro Yt51 Bt51 hEt51 hqt51
    clear hEt51
    simp only[nn]
    refine gr (rs:= [2]) (gcW 2 (some 11) rfl rfl (cu hqt51) (kt (hqt51.hp 0 rfl)) ?_ gn)
    simp only[nn]
    refine gr (rs:= [5]) (gcB 5 (some 14) rfl rfl hqt51 (ks hqt51.fr (hqt51.hold 3 rfl)) (fun x=>cu x) ?_ gn)
    intro Yt53 hqt53
    simp only[nn]
    refine gr (rs:= [9]) (gcB 9 (some 18) rfl rfl hqt53 (kn (hqt53.hp 0 rfl) (hqt53.hold 2 rfl)) (fun x=>cu x) ?_ gn)
    intro Yt54 hqt54
    simp only[nn]
    refine gr (rs:= [11]) (gcB 11 (some 20) rfl rfl hqt54 (Dx v _) (fun x=>cu x) ?_ gn)
    intro Yt55 hqt55
    simp only[nn]
    refine gr (rs:= [12]) (Ax 12 (some 21) rfl rfl (by kernel_rfl) (Bs rfl rfl rfl rfl rfl) (Nat.succ_pos _) hqt55 (fun _ hZ=>cu hZ) ?_ gn)
    intro Yt56 Bt56 hEt56 hqt56
    clear hEt56
    simp only[nn]
    refine gr (rs:= [13]) (gcW 13 (some 22) rfl rfl (cu hqt56) (ko (hqt56.hold 4 rfl)) ?_ gn)
    refine gp 14 (some 8) (.int .i64 (orE [thE o h.l.length,Aw [v],Ap h.l.length [v],Dr v])) rfl rfl (cu hqt56) ?_
    refine dn ?_
    try simp only[nn]
    exact pN ⟨_,_,_,rfl,cu hqt56⟩
 ·rintro a' X ⟨v13,v17,v21,rfl,hS9⟩
  simp only[nn]
  have SS:=Ab hS9
  clear hS9
  by_cases hc:orE [thE o h.l.length,Aw [v],Ap h.l.length [v],Dr v]=0
  ·obtain⟨j,q,ho_,hj⟩:=Kl (h:=h) (o:=o) (Jh hc (thE o h.l.length) (by simp))
   have HO_:=Ab ho_
   clear ho_
   go_wp2_with (first|go_skip|((with_reducible show wpList ..);first|(refine rd rfl (Jl rfl rfl rfl hc) ?_)|(refine zL (v.cs) 26 5 1 rwV szV (by rfl) rfl rfl SS rfl rfl rfl ?_;simp only[nn])))
   have HC:=hC j q _ (Aa HO_) hj hc (HP.To.end H (Aa SS) rfl)
   rw[Db] at HC
   rw[←Aa HO_] at HC
   refine HC.mono ?_
   rintro _ Y9 ⟨h1,y,er,rfl,hP,T9⟩
   replace SS:=Ab ((Aa SS).heap 0 rfl T9)
   have hb9:h1.b=h.b:=T9.hb
   clear T9 HC
   go_wp2
   go_ret2
   exact⟨h1,y,er,rfl, .inr ⟨hc,hP⟩,HP.To.end H (Aa SS) hb9⟩
  ·go_wp2_with (first|go_skip|((with_reducible show wpList ..);first|(refine rd rfl (Jy rfl rfl rfl hc) ?_)))
   go_ret2
   exact⟨h,false,_,rfl, .inl ⟨hc,rfl,rfl,rfl⟩,HP.To.end H (Aa SS) rfl⟩
