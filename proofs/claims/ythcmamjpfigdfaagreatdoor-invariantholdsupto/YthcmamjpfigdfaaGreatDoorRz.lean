import Derived.Test.YthcmamjpfigdfaaGreatDoorRy
import Derived.Test.YthcmamjpfigdfaaGreatDoorRu
set_option linter.all false
namespace Go.Proofs.YthcmamjpfigdfaaGreatDoor
set_option maxRecDepth 100000
set_option maxHeartbeats 0
section
open Go Go.Proofs Go.Maps Go.RowKit FM Tryz
def ReadsU (w:World) (A:Option Addr) (l:List SH):Prop:= ∀j s,l[j]? =some s->SS s/\s.p.x<2^64/\s.ps.length<=400/\ ∃b off SA cap,A=some ⟨b,off,none⟩/\b<w.heap.size/\ReadsP9 w SA s.ps/\w.rangeAt b (off+j * 8) (s.cs SA cap)/\s.ps.length<=cap
theorem ReadsU.s {w:World} {A:Option Addr} {l:List SH} (h:ReadsU w A l):ReadsS9 w A l:=fun j s hs=>by
 obtain⟨_,h1,h2,b,off,SA,cap,h3,h4,h5,h6,_⟩:=h j s hs
 exact⟨h1,by omega,b,off,SA,cap,h3,h4,h5,h6⟩
theorem ReadsU.fr {w X:World} {A:Option Addr} {l:List SH} (h:ReadsU w A l) (hf:Fr w X []):ReadsU X A l:=fun j s hs=>by
 obtain⟨h0,h1,h2,b,off,SA,cap,h3,h4,h5,h6,h7⟩:=h j s hs
 exact⟨h0,h1,h2,b,off,SA,cap,h3,Nat.lt_of_lt_of_le h4 hf.size,h5.fr hf,Dm h6 h4 hf,h7⟩
def Lp (bs ns:List SH):Nat->List DL
 |0=> []
 |i+1=>Lp bs ns i++(match ns[i]? with
  |none=> []
  |some a=>match bs[i]? with
   |some b=>Zgv ((i:Int)+1) b a
   |none=>Zdk ((i:Int)+1) a)
theorem Zgt {bs ns:List SH} {i:Nat} {a b:SH} (ha:ns[i]? =some a) (hb:bs[i]? =some b):Lp bs ns (i+1)=Lp bs ns i++Zgv ((i:Int)+1) b a:=by simp[Lp,ha,hb]
theorem ZeF {bs ns:List SH} {i:Nat} {a:SH} (ha:ns[i]? =some a) (hb:bs[i]? =none):Lp bs ns (i+1)=Lp bs ns i++Zdk ((i:Int)+1) a:=by simp[Lp,ha,hb]
theorem Zea (o:Int) (was is:List PR):(Lk o was is).length<=was.length+2 * is.length:=by
 obtain⟨h1,h2,h3⟩:=Qv o is was was.length
 have h4:=Zv o is (Dn is was was.length) (Dn is was was.length).length
 simp only[Lk,List.length_append,List.length_map,List.length_drop]
 omega
theorem chgL_len (o:Int) (b a:SH):(Zgv o b a).length<=3+b.ps.length+2 * a.ps.length:=by
 have h:=Zea o b.ps a.ps
 unfold Zgv
 cases (a.c !=b.c)<;>cases (eqB b.p a.p)<;>cases (a.x !=b.x)<;>simp<;>omega
def Zbr (l:List SH):Bool:=l.any (fun s=>Zbq s.ps)
def DiffPost (w:World) (bs ns:List SH) (e:Ending) (X:World):Prop:=
 ∃(lv:Value) (er:Int) (r:List DL),e= .returned (.tuple #[lv, .int .i64 er])/\X.ownsRow w.heap.size 91 29 lv r.length (flatL r)/\Below w.heap.size w X/\
  ((ns.length<bs.length/\er=7/\r= []/\lv= .slice none 0 0)∨(¬ns.length<bs.length/\(Zbr bs||Zbr ns)=true/\er=5/\r= []/\lv= .slice none 0 0)∨(¬ns.length<bs.length/\(Zbr bs||Zbr ns)=false/\er=0/\r=Lp bs ns ns.length))
theorem TS.setO {w Z:World} {E:List Nat} {b0 t:Nat} {o o':Int} {xs:List DL} {lv:Value} {L:List (Nat×List Value)} (h:TS w Z E b0 t o xs lv L):TS w (Z.setCells t 1 [.int .i64 o']) E b0 t o' xs lv L:=by
 have hne: ∀g,g≠t->(Z.setCells t 1 [.int .i64 o']).heap[g]? =Z.heap[g]? :=fun g hg=>Gr t _ 1 Z g hg
 refine⟨⟨h.ti.hold.put 1 [.int .i64 o'] (by simp),Ll h.ti.own (fun g hg=>hne g (fun e=>h.ti.apart (e▸hg))),h.ti.apart⟩, ?_,h.sep,h.ct,h.cl⟩
 refine h.hq.step (Fr.setCells8 Z t 1 _) (fun b hb=> ?_) (fun q hq hb=> ?_)
 ·obtain rfl:b=t:=by simpa using hb
  exact h.ct
 ·exact(h.sep q hq).1 (by simpa using hb)
theorem stO8 {ops:Array Oper} {rest:List Oper} {Q:Exit->Act->World->Prop} {w w0:World} {a:Act} {o:Oper} {E:List Nat} {L:List (Nat×List Value)} {b0 t:Nat} {ob n:Int} {xs:List DL} {lv:Value} {x y:Operand}  (ho:o.op= .store 3 x y) (hx:a.eval x= .pointer (some ⟨t,1,none⟩)) (hy:a.eval y= .int .i64 n) (hL:TS w0 w E b0 t ob xs lv L)
  (h: ∀X,TS w0 X E b0 t n xs lv L->wpList prog ops Q rest (a.put o.dst undef) X) (hw:Region.wanted o (yielded ops a.tmps)=true:=by rfl):wpList prog ops Q (o::rest) a w:=by
 refine BigFrame.wpList_want hw fun K hK=> ?_
 have hP:=hK _ _ (h _ (hL.setO (o':=n)))
 unfold Oper.wp execOp
 simp only[ho,hx,hy,Instr.storeAt,Instr.sureAddr,Sem.run_bind,Sem.run_pure,Result.andThen_ok,Dw w t 1 3 (.int .i64 n) [.int .i64 n] rfl (hL.ti.hold.there 1 1 (by simp)) szI (by simp[Value.oneCell'])]
 exact hP
theorem TS.first (w:World) (T:TypeId) {Z:World} (h:Hq w Z [] []):TS w (Z.alloc (Obj.cells #[.slice none 0 0, .int .i64 0] T)) [] w.heap.size Z.heap.size 0 [] (.slice none 0 0) []:=by
 have hn:=Holds.new Z [.slice none 0 0, .int .i64 0] T
 exact⟨⟨hn,⟨rfl, .inl ⟨rfl,rfl⟩⟩,by simp[Value.ownBlock]⟩,h.on ((Below.refl _ _).alloc (Nat.le_refl _) _),(fun q hq=>by cases hq), .inr h.fr.size,by simp[Value.ownBlock]⟩
theorem alTale {ops:Array Oper} {rest:List Oper} {Q:Exit->Act->World->Prop} {w w0:World} {a:Act} {o:Oper} (hw:Region.wanted o (yielded ops a.tmps)=true) (ho:o.op= .alloc 132) (hL:Hq w0 w [] [])
  (h: ∀X B,B=w.heap.size->TS w0 X [] w0.heap.size B 0 [] (.slice none 0 0) []->wpList prog ops Q rest (a.put o.dst (.pointer (some ⟨B,0,none⟩))) X):wpList prog ops Q (o::rest) a w:=by
 refine BigFrame.wpList_want hw fun K hK=> ?_
 have hz: ∀w,(zeroValue 132).run prog w= .ok (.agg #[.slice none 0 0, .int .i64 0]) w:=fun w=>by kernel_rfl
 have hP:=hK _ _ (h _ _ rfl (TS.first w0 132 hL))
 unfold Oper.wp execOp
 simp only[ho]
 simp[go_sem,hz,Value.cells]
 exact hP
theorem diff_any (A B:Option Addr) (cap cap2:Nat) (bs ns:List SH) (w:World) (hB:ReadsU w A bs) (hC:ReadsU w B ns) (hz:bs.length<=60) (hz2:ns.length<=60) (hT:Lib.Utf8Tabs 1 2 w):Calls prog 27 #[.slice A bs.length cap, .slice B ns.length cap2] w (DiffPost w bs ns):=by
 have LL:=Ab (Hq.nil w [])
 have HB:=Ab hB
 have HC:=Ab hC
 have HZ:=Ab hz
 have HZ2:=Ab hz2
 have HT:=Ab hT
 clear hB hC hz hz2 hT
 by_cases hlen:ns.length<bs.length
 ·have dl:decide ((ns.length:Int)<(bs.length:Int))=true:=decide_eq_true (by omega)
  have HLE:=Ab hlen
  clear hlen
  go_enter func27,ntmps27
  go_wp2_with (first|go_skip|((with_reducible show wpList ..);(refine rd rfl (Bp 61 85 underlying61 rfl rfl) ?_)))
  go_ret2
  exact⟨.slice none 0 0,7, [],rfl,⟨rfl, .inl ⟨rfl,rfl⟩⟩,(Aa LL).fr.below, .inl ⟨Aa HLE,rfl,rfl,rfl⟩⟩
 ·have dl:decide ((ns.length:Int)<(bs.length:Int))=false:=decide_eq_false (by omega)
  have HLE:=Ab hlen
  clear hlen
  have HDB:=Ab (fun (X:World) (hX:Fr w X [])=>hasIxD A cap bs (fun s=>Zbq s.ps) X ((Aa HB).s.fr hX) (by have:=Aa HZ;omega) (fun j p SA sc hp hR Y hY=>Yp p SA sc Y (hR.fr hY) (by have:=((Aa HB) j p hp).2.2.1;omega)))
  have HDN:=Ab (fun (X:World) (hX:Fr w X [])=>hasIxD B cap2 ns (fun s=>Zbq s.ps) X ((Aa HC).s.fr hX) (by have:=Aa HZ2;omega) (fun j p SA sc hp hR Y hY=>Yp p SA sc Y (hR.fr hY) (by have:=((Aa HC) j p hp).2.2.1;omega)))
  have hd1:bs.any (fun s=>Zbq s.ps)=Zbr bs:=rfl
  have hd2:ns.any (fun s=>Zbq s.ps)=Zbr ns:=rfl
  rw[hd1] at HDB
  rw[hd2] at HDN
  generalize hdb:Zbr bs=db at *
  generalize hdn:Zbr ns=dn at *
  have HDD:=Ab (And.intro hdb hdn)
  clear hd1 hd2 hdb hdn
  go_enter func27,ntmps27
  go_wp2_with (first|go_skip|((with_reducible show wpList ..);(refine rd rfl (Bp 61 85 underlying61 rfl rfl) ?_)))
  refine(Aa HDB _ (Aa LL).fr).mono ?_
  rintro e Y1 ⟨rfl,hY1⟩
  replace LL:=Ab ((Aa LL).on hY1)
  clear hY1
  cases db
  ·go_wp2_with (go_skip)
   refine(Aa HDN _ (Aa LL).fr).mono ?_
   rintro e Y2 ⟨rfl,hY2⟩
   replace LL:=Ab ((Aa LL).on hY2)
   clear hY2
   cases dn
   ·go_wp2_with (first|go_skip|((with_reducible show wpList ..);first|(refine rd rfl (Bp 61 85 underlying61 rfl rfl) ?_)|((refine alTale (by rfl) rfl (Aa LL) ?_);intro X6 t hE6 L6;have ht6:=Ab (Nat.le_trans (Aa LL).fr.size (Nat.le_of_eq hE6.symm));have LT:=Ab L6;clear L6 hE6 LL;simp only[nn])))
    go_loopg [22] ns.length (fun gm s22 wr=> ∃i:Nat,s22= .int .i64 (i:Nat)/\i<=ns.length/\ns.length - i<=gm/\(Lp bs ns i).length<=1203 * i/\ ∃(o:Int) (lw:Value),Hid (TS w wr [] w.heap.size t o (Lp bs ns i) lw []))
    case atStart=>exact⟨0,rfl,by omega,by omega,by simp[Lp],0,_,LT⟩
    case round=>
     clear LT
     obtain⟨i,rfl,hil,hgm,hdl,ob,lw,LT⟩:=hrel
     by_cases hlt:i<ns.length
     ·have dlt:decide ((i:Int)<(ns.length:Int))=true:=decide_eq_true (by omega)
      have hw1:IntKind.i64.wrap ((i:Int)+1)=(i:Int)+1:=by have:=Aa HZ2;rw[IntKind.wrap_i64];omega
      obtain⟨a,ha⟩: ∃a,ns[i]? =some a:=⟨_,List.getElem?_eq_getElem hlt⟩
      obtain⟨hss,_,hpl,b,off,AA,ac,hA,hb,hrp,hrg,hcap⟩:=(Aa HC) i a ha
      have HA:=Ab hA
      have HA2:Hid (∀X,Fr w X []->X.rangeAt b (off+i * 8) (a.cs AA ac)):=Ab (fun X hX=>Dm hrg hb hX)
      have HLT:=Ab hlt
      have HAX:=Ab (And.intro hss (And.intro hpl (And.intro hrp hcap)))
      have HDL:=Ab hdl
      clear hA hb hrg hss hpl hrp hcap hil hlt
      by_cases hib:i<bs.length
      ·obtain⟨bb,hbi⟩: ∃bb,bs[i]? =some bb:=⟨_,List.getElem?_eq_getElem hib⟩
       have HDT:=Ab (Zgt ha hbi)
       have dib:decide ((i:Int)<(bs.length:Int))=true:=decide_eq_true (by omega)
       obtain⟨hssb0,_,hplb0,b20,off20,BA,bc,hAb0,hbb0,hrpb0,hrgb0,_⟩:=(Aa HB) i bb hbi
       have HBX:=Ab (And.intro hssb0 (And.intro hplb0 (And.intro hAb0 (And.intro hbb0 (And.intro hrpb0 hrgb0)))))
       have HIB:=Ab hib
       clear hssb0 hplb0 hAb0 hbb0 hrpb0 hrgb0 hib hbi ha
       go_wp2_with (first|go_skip|((with_reducible show wpList ..);first|(refine rd rfl (Bp 61 85 underlying61 rfl rfl) ?_)|(refine rd rfl (Dh 61 8 i ZcR Zdr rfl rfl (Aa HA) rfl (Aa HLT)) ?_)|(refine rd rfl (Br (vs:=a.cs AA ac) 85 8 rwS szS rfl rfl (Aa HA2 _ (Aa LT).hq.fr) rfl) ?_)|((refine alT 85 (Dr.cs none 0) rfl (fun w=>by kernel_rfl) (Aa LT) ?_);intro X8 B8 hE8 L8 hb8;have hB8:=Ab (Nat.le_trans (Aa LT).hq.fr.size (Nat.le_of_eq hE8.symm));replace LT:=Ab L8;clear L8 hb8 hE8;simp only[nn])|((refine stT (vs:=a.cs AA ac) 0 85 rfl rfl rfl rfl (Zc2 _ _ _) szS (Aa LT) rfl (by simp[Bt,SH.cs,VV.cs,Dr,Aq]) (Or.inr (Aa hB8)) ?_);intro X9 L9 hf9;replace LT:=Ab L9;clear L9 hf9;simp only[nn])|(refine rd rfl (Nb rfl rfl rfl hw1) ?_)|(refine rd rfl (ZaQ rfl rfl rfl dib) ?_)|((refine stO8 rfl rfl rfl (Aa LT) ?_);intro X10 L10;replace LT:=Ab L10;clear L10;simp only[nn])))
       obtain⟨hssb,hplb,hAb,hbb,hrpb,hrgb⟩:=Aa HBX
       obtain⟨hss,hpl,hrp,hcap⟩:=Aa HAX
       have hib:=Aa HIB
       have hdl2:=Aa HDL
       have ht0:TS w _ [] w.heap.size t ((i:Int)+1) (Lp bs ns i) lw [(B8,a.cs AA ac)]:=(Aa LT).drew
       have hb1:=hrpb.ts (fun j p hp b off hb=>by simp) ht0
       have ha1:=hrp.ts (fun j p hp b off hb=>by simp) ht0
       have hz60:=Aa HZ2
       have hlt60:=Aa HLT
       have hcc:=ZdG bb a BA AA bc ac w.heap.size t ((i:Int)+1) _ lw _ ht0.ti hb1.1 ha1.1 hb1.2 ha1.2 hcap (by omega) ht0.hq.fr.size hssb hss (fun Z hZ=>Ao (Aa HT) (Km ht0 hZ).below)
       unfold SH.agg at hcc
       have hq0: ∃ys lw,TS w _ [] w.heap.size t ((i:Int)+1) ys lw [(B8,a.cs AA ac)]:=⟨_,_,ht0⟩
       refine wp_region_held_drew (P:=prog) (S:=fun Z=> ∃ys lw,TS w Z [] w.heap.size t ((i:Int)+1) ys lw [(B8,a.cs AA ac)]) (by kernel_rfl) hq0 (fun hS0=> ?_)
       refine y0 0 (some 34) (.slice A bs.length cap) rfl hq0 ?_
       refine y0 1 (some 35) (.int .i64 (i:Nat)) rfl hq0 ?_
       refine y1 2 (some 36) (.pointer (some ⟨b20,off20+i * 8,none⟩)) rfl (fun X hX=>Dh 61 8 i ZcR Zdr rfl rfl hAb rfl hib) hq0 ?_
       refine y1 3 (some 37) (.agg (bb.cs BA bc).toArray) rfl (fun X hX=>by obtain⟨ys,lw,hZ⟩:=hX;exact Br (vs:=bb.cs BA bc) 85 8 rwS szS rfl rfl (Dm hrgb hbb hZ.hq.fr) rfl) hq0 ?_
       refine y1 4 (some 38) (.agg (a.cs AA ac).toArray) rfl (fun X hX=>by obtain⟨ys,lw,hZ⟩:=hX;exact Af (vs:=a.cs AA ac) 85 8 rwS szS rfl rfl (hZ.hq.get 0 rfl) rfl rfl) hq0 ?_
       refine wpAnyH_ready (rs:= [5]) (by kernel_rfl) (by simp) (Jm 5 (some 39) rfl (by kernel_rfl) (by kernel_rfl) (by kernel_rfl) (hcc) ?_ AllReadyH.nil)
       rintro e Y5 ⟨lv5,rfl,hY5⟩
       have ht5:=ht0.tell hY5
       have hq5: ∃ys lw,TS w Y5 [] w.heap.size t ((i:Int)+1) ys lw [(B8,a.cs AA ac)]:=⟨_,_,ht5⟩
       refine⟨_,rfl,hq5, ?_⟩
       simp only[nn]
       refine dn ?_
       try simp only[nn]
       have LN:Hid (TS w Y5 [] w.heap.size t ((i:Int)+1) (Lp bs ns (i+1)) lv5 []):=Ab (by rw[Aa HDT];exact TS.left (L:= []) ht5)
       have hcl:=chgL_len ((i:Int)+1) bb a
       have HDL2:Hid ((Lp bs ns (i+1)).length<=1203 * (i+1)):=Ab (by rw[Aa HDT,List.length_append];omega)
       clear hssb hplb hAb hbb hrpb hrgb hss hpl hrp hcap hib hdl2 ht0 hb1 ha1 hz60 hlt60 hcc hq0 hS0 ht5 hq5 hY5 hcl LT
       go_wp2_with (go_skip)
       go_roundg (ns.length - (i+1))
       case measure=>have:=Aa HLT;omega
       case rel=>exact⟨i+1,by go_num,by have:=Aa HLT;omega,by omega,Aa HDL2,_,_,LN⟩
      ·have HDT:=Ab (ZeF ha (List.getElem?_eq_none (show bs.length<=i by omega)))
       have dib:decide ((i:Int)<(bs.length:Int))=false:=decide_eq_false (by omega)
       clear hib ha
       go_wp2_with (first|go_skip|((with_reducible show wpList ..);first|(refine rd rfl (Bp 61 85 underlying61 rfl rfl) ?_)|(refine rd rfl (Dh 61 8 i ZcR Zdr rfl rfl (Aa HA) rfl (Aa HLT)) ?_)|(refine rd rfl (Br (vs:=a.cs AA ac) 85 8 rwS szS rfl rfl (Aa HA2 _ (Aa LT).hq.fr) rfl) ?_)|((refine alT 85 (Dr.cs none 0) rfl (fun w=>by kernel_rfl) (Aa LT) ?_);intro X8 B8 hE8 L8 hb8;have hB8:=Ab (Nat.le_trans (Aa LT).hq.fr.size (Nat.le_of_eq hE8.symm));replace LT:=Ab L8;clear L8 hb8 hE8;simp only[nn])|((refine stT (vs:=a.cs AA ac) 0 85 rfl rfl rfl rfl (Zc2 _ _ _) szS (Aa LT) rfl (by simp[Bt,SH.cs,VV.cs,Dr,Aq]) (Or.inr (Aa hB8)) ?_);intro X9 L9 hf9;replace LT:=Ab L9;clear L9 hf9;simp only[nn])|(refine rd rfl (Nb rfl rfl rfl hw1) ?_)|(refine rd rfl (ZaQ rfl rfl rfl dib) ?_)|((refine stO8 rfl rfl rfl (Aa LT) ?_);intro X10 L10;replace LT:=Ab L10;clear L10;simp only[nn])|(refine rd rfl (Af (vs:=a.cs AA ac) 85 8 rwS szS rfl rfl ((Aa LT).hq.get 0 rfl) rfl rfl) ?_)))
       have ha1:=(Aa HAX).2.2.1.ts (fun j p hp b off hb=>by simp) (Aa LT)
       have hcc:=made_any a AA ac w.heap.size t ((i:Int)+1) _ lw _ (Aa LT).ti ha1.1 ha1.2 (by have:=(Aa HAX).2.1;have:=Aa HDL;have:=Aa HZ2;have:=Aa HLT;omega) (Aa LT).hq.fr.size (Aa HAX).1
       unfold SH.agg at hcc
       refine hcc.mono ?_
       clear hcc ha1
       rintro e Y5 ⟨lv5,rfl,hY5⟩
       replace LT:=Ab ((Aa LT).tell hY5)
       clear hY5
       have LN:Hid (TS w Y5 [] w.heap.size t ((i:Int)+1) (Lp bs ns (i+1)) lv5 []):=Ab (by rw[Aa HDT];exact TS.left (L:= []) (Aa LT))
       have HDL2:Hid ((Lp bs ns (i+1)).length<=1203 * (i+1)):=Ab (by rw[Aa HDT,List.length_append];have:=(Aa HAX).2.1;have:=Aa HDL;simp[Zdk];omega)
       clear LT
       go_wp2_with (go_skip)
       go_roundg (ns.length - (i+1))
       case measure=>have:=Aa HLT;omega
       case rel=>exact⟨i+1,by go_num,by have:=Aa HLT;omega,by omega,Aa HDL2,_,_,LN⟩
     ·obtain rfl:i=ns.length:=by omega
      clear hlt hil hgm hdl
      go_wp2_with (first|go_skip|((with_reducible show wpList ..);(refine rd rfl (Ad 86 isAgg86 rfl rfl ((Aa LT).ti.hold) rfl) ?_)))
      go_ret2
      exact⟨lw,0,_,rfl,(Aa LT).ti.own,(Aa LT).hq.fr.below, .inr (.inr ⟨Aa HLE,by rw[(Aa HDD).1,(Aa HDD).2];rfl,rfl,rfl⟩)⟩
   ·go_wp2_with (go_skip)
    go_ret2
    exact⟨.slice none 0 0,5, [],rfl,⟨rfl, .inl ⟨rfl,rfl⟩⟩,(Aa LL).fr.below, .inr (.inl ⟨Aa HLE,by rw[(Aa HDD).1,(Aa HDD).2];rfl,rfl,rfl,rfl⟩)⟩
  ·go_wp2_with (go_skip)
   go_ret2
   exact⟨.slice none 0 0,5, [],rfl,⟨rfl, .inl ⟨rfl,rfl⟩⟩,(Aa LL).fr.below, .inr (.inl ⟨Aa HLE,by rw[(Aa HDD).1,(Aa HDD).2];rfl,rfl,rfl,rfl⟩)⟩
def wV (x:Nat):VV:=⟨4,false,x,⟨#[]⟩,0⟩
def wD (x:Nat):DD:=⟨wV x,Aq,Aq,1,1,1⟩
def wN:VV:=⟨2,false,0,⟨#[]⟩,0⟩
def wK:KK:=⟨⟨#[97]⟩,0⟩
def wP (x:Nat):PR:=⟨wK,wD x⟩
def wS (x:Nat):SH:=⟨1,wN,false, [wP x]⟩
def flA:Nat:=4607182418800017408
def flB:Nat:=4611686018427387904
theorem rb12:rbV (coA [wS flA] [wS flB] 0) 0=false/\rbV (coA [wS flA] [wS flB] 0) 1=false/\rbV (coA [wS flA] [wS flB] 0) 2=false/\rbV (coA [wS flA] [wS flB] 0) 3=false/\rbV (coA [wS flA] [wS flB] 0) 4=false/\rbV (coA [wS flA] [wS flB] 0) 5=true:=⟨by kernel_rfl,by kernel_rfl,by kernel_rfl,by kernel_rfl,by kernel_rfl,by kernel_rfl⟩
theorem rb11:rbV (coA [wS flA] [wS flA] 0) 0=false/\rbV (coA [wS flA] [wS flA] 0) 1=false/\rbV (coA [wS flA] [wS flA] 0) 2=false/\rbV (coA [wS flA] [wS flA] 0) 3=false/\rbV (coA [wS flA] [wS flA] 0) 4=false/\rbV (coA [wS flA] [wS flA] 0) 5=false:=⟨by kernel_rfl,by kernel_rfl,by kernel_rfl,by kernel_rfl,by kernel_rfl,by kernel_rfl⟩
theorem br12 {o r:Int} (h:BrP [wS flA] [wS flB] o r):o=1/\r=6:=by
 obtain⟨h0,h1,h2,h3,h4,h5⟩:=rb12
 rcases h with ⟨_,_,h⟩|⟨i,j,hi,hj,rfl,rfl,h,hn,_⟩
 ·have:=h 0 (by simp) 5 (by omega)
  rw[h5] at this
  cases this
 ·obtain rfl:i=0:=by simp at hi;omega
  have:j=0∨j=1∨j=2∨j=3∨j=4∨j=5:=by omega
  rcases this with rfl|rfl|rfl|rfl|rfl|rfl
  ·rw[h0] at h;cases h
  ·rw[h1] at h;cases h
  ·rw[h2] at h;cases h
  ·rw[h3] at h;cases h
  ·rw[h4] at h;cases h
  ·exact⟨rfl,rfl⟩
theorem br11 {o r:Int} (h:BrP [wS flA] [wS flA] o r):o=0/\r=0:=by
 obtain⟨h0,h1,h2,h3,h4,h5⟩:=rb11
 rcases h with ⟨rfl,rfl,h⟩|⟨i,j,hi,hj,rfl,rfl,h,hn,_⟩
 ·exact⟨rfl,rfl⟩
 ·obtain rfl:i=0:=by simp at hi;omega
  have:j=0∨j=1∨j=2∨j=3∨j=4∨j=5:=by omega
  rcases this with rfl|rfl|rfl|rfl|rfl|rfl
  ·rw[h0] at h;cases h
  ·rw[h1] at h;cases h
  ·rw[h2] at h;cases h
  ·rw[h3] at h;cases h
  ·rw[h4] at h;cases h
  ·rw[h5] at h;cases h
theorem fr1:frV (wS flA)=true:=by kernel_rfl
theorem db12:(Zbr [wS flA]||Zbr [wS flB])=false:=by kernel_rfl
theorem df12:Lp [wS flA] [wS flB] 1= [Ol 1 (wP flB)]:=by kernel_rfl
theorem readsW {X:World} {B P:Nat} {x:Nat}  (hB:Holds X B ((wS x).cs (some ⟨P,0,none⟩) 1)) (hP:Holds X P (wP x).cs) (hx:x<2^64:=by decide):ReadsU X (some ⟨B,0,none⟩) [wS x]:=fun j s hs=>by
 match j,hs with
 |0,hs=>
  obtain rfl:wS x=s:=by simpa using hs
  have sv: ∀v:VV,v.s=⟨#[]⟩->SV v:=fun v e=>by unfold SV;rw[e];decide
  have sp:SP (wP x):=⟨by show (⟨#[97]⟩:ByteArray).size<=_;decide,sv _ rfl,sv _ rfl,sv _ rfl⟩
  refine⟨⟨sv _ rfl,fun p hp=> ?_⟩,by show (0:Nat)<2^64;decide,by show 1<=400;decide,B,0,some ⟨P,0,none⟩,1,rfl,hB.lt (Nat.succ_pos _),fun j p hp=> ?_, ?_,by show 1<=1;decide⟩
  ·obtain rfl:p=wP x:=by simpa [wS] using hp
   exact sp
  ·match j,hp with
   |0,hp=>
    obtain rfl:wP x=p:=by simpa [wS] using hp
    refine⟨⟨⟨hx,by show (0:Nat)<2^64;decide,by show (0:Nat)<2^64;decide⟩,by show (⟨#[97]⟩:ByteArray).size<=maxLen;unfold maxLen;decide,by show (Lit.int IntKind.i64 0).wf=true;decide⟩,P,0,rfl,hP.lt (Nat.succ_pos _), ?_⟩
    simpa using hP.2
   |j+1,hp=>simp[wS] at hp
  ·simpa using hB.2
 |j+1,hs=>simp at hs
theorem ex_wV {o:Oper} {a:Act} {w:World} {y0 y2:Operand} (x:Nat) (ho:o.op= .build 40 #[(0,y0),(2,y2)]) (h0:a.eval y0= .int .i64 4) (h2:a.eval y2= .float .f64 x):(execOp a.eval o).run prog w= .ok (.value (.agg ((wV x).cs).toArray)) w:=by
 have e:(Instr.build 40 #[(0, .int .i64 4),(2, .float .f64 x)]).run prog w= .ok (.agg ((wV x).cs).toArray) w:=by kernel_rfl
 unfold execOp
 simp only[ho,List.map_toArray,List.map_cons,List.map_nil,h0,h2]
 simp[e]
theorem ex_wD {o:Oper} {a:Act} {w:World} {y0 y3 y4 y5:Operand} (x:Nat) (ho:o.op= .build 43 #[(0,y0),(3,y3),(4,y4),(5,y5)]) (h0:a.eval y0= .agg (wV x).cs.toArray) (h3:a.eval y3= .int .i64 1) (h4:a.eval y4= .int .i64 1) (h5:a.eval y5= .int .i64 1):(execOp a.eval o).run prog w= .ok (.value (.agg ((wD x).cs).toArray)) w:=by
 have e:(Instr.build 43 #[(0, .agg (wV x).cs.toArray),(3, .int .i64 1),(4, .int .i64 1),(5, .int .i64 1)]).run prog w= .ok (.agg ((wD x).cs).toArray) w:=by kernel_rfl
 unfold execOp
 simp only[ho,List.map_toArray,List.map_cons,List.map_nil,h0,h3,h4,h5]
 simp[e]
theorem ex_wN {o:Oper} {a:Act} {w:World} {y0:Operand}  (ho:o.op= .build 40 #[(0,y0)]) (h0:a.eval y0= .int .i64 2):(execOp a.eval o).run prog w= .ok (.value (.agg (wN.cs).toArray)) w:=by
 have e:(Instr.build 40 #[(0, .int .i64 2)]).run prog w= .ok (.agg (wN.cs).toArray) w:=by kernel_rfl
 unfold execOp
 simp only[ho,List.map_toArray,List.map_cons,List.map_nil,h0]
 simp[e]
theorem ex_wK {o:Oper} {a:Act} {w:World} {y0:Operand}  (ho:o.op= .build 37 #[(0,y0)]) (h0:a.eval y0= .string ⟨#[97]⟩):(execOp a.eval o).run prog w= .ok (.value (.agg (wK.cs).toArray)) w:=by
 have e:(Instr.build 37 #[(0, .string ⟨#[97]⟩)]).run prog w= .ok (.agg (wK.cs).toArray) w:=by kernel_rfl
 unfold execOp
 simp only[ho,List.map_toArray,List.map_cons,List.map_nil,h0]
 simp[e]
theorem ex_wP {o:Oper} {a:Act} {w:World} {y0 y1:Operand} (x:Nat) (ho:o.op= .build 80 #[(0,y0),(1,y1)]) (h0:a.eval y0= .agg wK.cs.toArray) (h1:a.eval y1= .agg (wD x).cs.toArray):(execOp a.eval o).run prog w= .ok (.value (.agg ((wP x).cs).toArray)) w:=by
 have e:(Instr.build 80 #[(0, .agg wK.cs.toArray),(1, .agg (wD x).cs.toArray)]).run prog w= .ok (.agg ((wP x).cs).toArray) w:=by kernel_rfl
 unfold execOp
 simp only[ho,List.map_toArray,List.map_cons,List.map_nil,h0,h1]
 simp[e]
theorem ex_wS {o:Oper} {a:Act} {w:World} {y0 y1 y3:Operand} (x P:Nat) (ho:o.op= .build 85 #[(0,y0),(1,y1),(3,y3)]) (h0:a.eval y0= .int .i64 1) (h1:a.eval y1= .agg wN.cs.toArray) (h3:a.eval y3= .slice (some ⟨P,0,none⟩) 1 1):(execOp a.eval o).run prog w= .ok (.value (.agg ((wS x).cs (some ⟨P,0,none⟩) 1).toArray)) w:=by
 have e:(Instr.build 85 #[(0, .int .i64 1),(1, .agg wN.cs.toArray),(3, .slice (some ⟨P,0,none⟩) 1 1)]).run prog w= .ok (.agg ((wS x).cs (some ⟨P,0,none⟩) 1).toArray) w:=by kernel_rfl
 unfold execOp
 simp only[ho,List.map_toArray,List.map_cons,List.map_nil,h0,h1,h3]
 simp[e]
theorem szF8:(prog.info? 38).map (·.size)=some 1:=by kernel_rfl
theorem ZfI (w:World) (hT:Lib.Utf8Tabs 1 2 w):Calls prog 9 #[] w fun e w'=>e= .returned (.bool true)/\Below w.heap.size w w':=by
 have LL:=Ab (Hq.nil w [])
 have HT:=Ab hT
 clear hT
 go_enter func9,ntmps9
 go_wp2_with (first|go_skip|((with_reducible show wpList ..);first|(refine rd rfl (ex_wV flA rfl rfl rfl) ?_)|(refine rd rfl (ex_wD flA rfl rfl rfl rfl rfl) ?_)|((refine alG 43 (zeroD.cs) rfl (fun w=>by kernel_rfl) (show Hq w _ [] [] from Aa LL) ?_);intro X1 B1 hE1 L1 hb1;have hB1:=Ab (Nat.le_trans (Aa LL).fr.size (Nat.le_of_eq hE1.symm));replace LL:=Ab L1;clear L1 hb1 hE1;simp only[nn])|((refine st (vs:=(wD flA).cs) 0 43 (by rfl) rfl rfl rfl rfl (ZcJ _) szD (Aa LL) rfl (by simp[DD.cs,zeroD]) (Or.inr (Aa hB1)) ?_);intro X2 L2 hf2 hs2;replace LL:=Ab L2;clear L2 hf2 hs2;simp only[nn])|(refine rd rfl (Af (vs:=(wD flA).cs) 43 18 rwD szD rfl rfl ((Aa LL).get 0 rfl) rfl rfl) ?_)|((refine alG 43 (zeroD.cs) rfl (fun w=>by kernel_rfl) (Aa LL) ?_);intro X3 B3 hE3 L3 hb3;have hB3:=Ab (Nat.le_trans (Aa LL).fr.size (Nat.le_of_eq hE3.symm));replace LL:=Ab L3;clear L3 hb3 hE3;simp only[nn])|((refine st (vs:=(wD flA).cs) 1 43 (by rfl) rfl rfl rfl rfl (ZcJ _) szD (Aa LL) rfl (by simp[DD.cs,zeroD]) (Or.inr (Aa hB3)) ?_);intro X4 L4 hf4 hs4;replace LL:=Ab L4;clear L4 hf4 hs4;simp only[nn])|((refine st (vs:= [.float .f64 flB]) 1 38 (by rfl) rfl rfl rfl rfl (by simp[Value.oneCell']) szF8 (Aa LL) rfl (by simp[DD.cs,Bt,wD]) (Or.inr (Aa hB3)) ?_);intro X5 L5 hf5 hs5;replace LL:=Ab L5;clear L5 hf5 hs5;simp only[nn])|(refine rd rfl (ex_wN rfl rfl) ?_)|(refine rd rfl (ex_wK rfl rfl) ?_)|(refine rd rfl (ex_wP flA rfl rfl rfl) ?_)|((refine Oy (t:=49) (e:=80) (cs:=(wP flA).cs) rfl rfl underlying49 Zfq rfl rfl (Aa LL) ?_);intro X6 B6 hE6 L6 hb6;replace LL:=Ab L6;clear L6 hb6 hE6;simp only[nn])|(refine rd rfl (ex_wS flA B6 rfl rfl rfl rfl) ?_)|((refine Oy (t:=61) (e:=85) (cs:=(wS flA).cs (some ⟨B6,0,none⟩) 1) rfl rfl underlying61 inf28 rfl rfl (Aa LL) ?_);intro X7 B7 hE7 L7 hb7;replace LL:=Ab L7;clear L7 hb7 hE7;simp only[nn])|(refine rd rfl (Af (vs:=(wD flB).cs) 43 18 rwD szD rfl rfl ((Aa LL).get 1 rfl) rfl rfl) ?_)|(refine rd rfl (ex_wP flB rfl rfl rfl) ?_)|((refine Oy (t:=49) (e:=80) (cs:=(wP flB).cs) rfl rfl underlying49 Zfq rfl rfl (Aa LL) ?_);intro X8 B8 hE8 L8 hb8;replace LL:=Ab L8;clear L8 hb8 hE8;simp only[nn])|(refine rd rfl (ex_wS flB B8 rfl rfl rfl rfl) ?_)|((refine Oy (t:=61) (e:=85) (cs:=(wS flB).cs (some ⟨B8,0,none⟩) 1) rfl rfl underlying61 inf28 rfl rfl (Aa LL) ?_);intro X9 B9 hE9 L9 hb9;replace LL:=Ab L9;clear L9 hb9 hE9;simp only[nn])))
 have HR1:=Ab (readsW (x:=flA) ((Aa LL).get 3 rfl) ((Aa LL).get 2 rfl))
 have HR2:=Ab (readsW (x:=flB) ((Aa LL).get 5 rfl) ((Aa LL).get 4 rfl))
 have HT2:=Ab (Ao (Aa HT) (Aa LL).fr.below)
 have LB:=Ab (Aa LL).fr.below
 clear LL HT hB1 hB3
 have hbk:=Up (some ⟨B7,0,none⟩) (some ⟨B9,0,none⟩) 1 1 [wS flA] [wS flB] _ (Aa HR1).s (Aa HR2).s (by decide) (by decide) (Aa HT2)
 refine hbk.mono ?_
 clear hbk
 rintro e Y1 ⟨o,r,rfl,hbr,hY1⟩
 obtain⟨rfl,rfl⟩:=br12 hbr
 have f1:=Fr.of_below hY1 []
 replace HR1:=Ab ((Aa HR1).fr f1)
 replace HR2:=Ab ((Aa HR2).fr f1)
 replace HT2:=Ab (Ao (Aa HT2) hY1)
 replace LB:=Ab ((Aa LB).trans (hY1.mono (Aa LB).size))
 clear hY1 hbr f1
 go_wp2_with fail
 have hbk:=Up (some ⟨B7,0,none⟩) (some ⟨B7,0,none⟩) 1 1 [wS flA] [wS flA] _ (Aa HR1).s (Aa HR1).s (by decide) (by decide) (Aa HT2)
 refine hbk.mono ?_
 clear hbk
 rintro e Y2 ⟨o,r,rfl,hbr,hY1⟩
 obtain⟨rfl,rfl⟩:=br11 hbr
 have f1:=Fr.of_below hY1 []
 replace HR1:=Ab ((Aa HR1).fr f1)
 replace HR2:=Ab ((Aa HR2).fr f1)
 replace HT2:=Ab (Ao (Aa HT2) hY1)
 replace LB:=Ab ((Aa LB).trans (hY1.mono (Aa LB).size))
 clear hY1 hbr f1
 go_wp2_with fail
 have hbk:=diff_any (some ⟨B7,0,none⟩) (some ⟨B9,0,none⟩) 1 1 [wS flA] [wS flB] _ (Aa HR1) (Aa HR2) (by decide) (by decide) (Aa HT2)
 refine hbk.mono ?_
 clear hbk
 rintro e Y3 ⟨lv,er,rr,rfl,hown,hY1,hdf⟩
 obtain⟨rfl,rfl⟩:er=0/\rr= [Ol 1 (wP flB)]:=by
  rcases hdf with ⟨h,_⟩|⟨_,h,_⟩|⟨_,_,h1,h2⟩
  ·simp at h
  ·rw[db12] at h;cases h
  ·exact⟨h1,h2.trans df12⟩
 have f1:=Fr.of_below hY1 []
 replace HR1:=Ab ((Aa HR1).fr f1)
 obtain⟨g,gc,rfl,_,hgl,hgr⟩:=On (f:=DL.cs) (k:=29) (fun _=>rfl) hown rfl 0 (by decide)
 have HG:Hid (∀X,Fr Y3 X []->X.cell? ⟨g,0+0 * 29+1,none⟩=some (.int .i64 6)):=Ab (fun X hX=>Dm hgr hgl hX 1 _ rfl)
 replace LB:=Ab ((Aa LB).trans (hY1.mono (Aa LB).size))
 clear hY1 hdf f1 HR2 HT2 hown hgr hgl
 obtain⟨_,_,_,b7,off7,SA,sc,hA7,hb7,hrp7,hrg7,_⟩:=(Aa HR1) 0 (wS flA) rfl
 obtain⟨rfl,rfl⟩:b7=B7/\off7=0:=by simpa using hA7.symm
 have HLD:Hid (Y3.rangeAt b7 (0+0 * 8) ((wS flA).cs SA sc)):=Ab hrg7
 have HRP:=Ab hrp7
 clear hA7 hb7 hrg7 hrp7 HR1
 go_wp2_with (first|go_skip|((with_reducible show wpList ..);first|(refine rd rfl (Bw 61 8 0 ZcR Zdr rfl rfl rfl (by decide)) ?_)|(refine rd rfl (Br (vs:=(wS flA).cs SA sc) 85 8 rwS szS rfl rfl (Aa HLD) rfl) ?_)))
 have hfz:=Zer (wS flA) SA sc _ (Aa HRP) (by decide)
 rw[fr1,sagg] at hfz
 refine hfz.mono ?_
 clear hfz
 rintro e Y4 ⟨rfl,hY4⟩
 have f4:=Fr.of_below hY4 []
 replace LB:=Ab ((Aa LB).trans (hY4.mono (Aa LB).size))
 clear hY4
 go_wp2_with fail
 refine(Zat _ _).mono ?_
 rintro _ _ ⟨rfl,rfl⟩
 go_wp2_with (first|go_skip|((with_reducible show wpList ..);first|(refine rd rfl (Bp 86 91 underlying86 rfl rfl) ?_)|(refine rd rfl (Bw 86 29 0 unLs idLs rfl rfl rfl (by decide)) ?_)|(refine rd rfl (Zgo 3 isAgg3 rfl rfl (Aa HG _ f4)) ?_)))
 go_ret
 exact⟨rfl,Aa LB⟩
end
section
open Go Go.Proofs Go.Maps Go.RowKit FM
theorem eqB_same (v:VV):eqB v v=true:=by simp[eqB]
theorem fO_at {n:Nat} {l:List (KK×DD)} (h:WhP n l) {i:Nat} {e:KK×DD} (he:l[i]? =some e):fO (l.map toP) e.1=some i:=by
 have hp:(l.map toP)[i]? =some (toP e):=by rw[List.getElem?_map,he];rfl
 obtain⟨j,hj,hji⟩:=fO_mem hp
 obtain⟨r,hr,hk⟩:=fO_get hj
 rw[List.getElem?_map] at hr
 obtain⟨e2,he2,rfl⟩:=Option.map_eq_some_iff.1 hr
 have hlt:=(List.getElem?_eq_some_iff.1 he2).1
 have a1:(l.map Prod.fst)[j]? =some e.1:=by rw[List.getElem?_map,he2,Option.map_some];exact congrArg some hk
 have a2:(l.map Prod.fst)[i]? =some e.1:=by rw[List.getElem?_map,he];rfl
 have hj2:j<(l.map Prod.fst).length:=by rw[List.length_map];omega
 have:=(List.getElem?_inj hj2 h.nd).1 (a1.trans a2.symm)
 rw[←this]
 exact hj
theorem has_at {l:List (KK×DD)} {i:Nat} {e:KK×DD} (he:l[i]? =some e):hasP l e.1=true:=by
 unfold hasP
 exact List.any_eq_true.2 ⟨e,List.mem_of_getElem? he,by simp⟩
theorem keep_c {a b:DD} (ha:wholeV a=true) (hc:a.c=1) (h:keepB a b=true):b.c=1:=by
 unfold keepB at h
 rw[(Ut ha).1,(Ut ha).2,hc] at h
 cases hst:stV b with
 |false=>rw[hst] at h;cases h
 |true=>
  rw[hst] at h
  have h1:Ln a b=true:=by simpa using h
  unfold Ln at h1
  cases hq:(b.c !=1||b.e !=a.e||Az b !=Az a)
  ·simp only[Bool.or_eq_false_iff,bne_eq_false_iff_eq] at hq
   exact hq.1.1
  ·rw[hq] at h1
   cases h1
theorem kept_at {n m:Nat} {a b:List (KK×DD)} (ha:WhP n a) (hb:WhP m b) {i:Nat} {e:KK×DD} (he:a[i]? =some e) (hl:Lr (toP e)=false) (hk:keepB ((lkP a e.1).getD zeroD) ((lkP b e.1).getD zeroD)=true):kept (b.map toP) (toP e)=true:=by
 have hc:e.2.c=1:=by simpa [Lr,toP] using hl
 have hw:=(ha.e e (List.mem_of_getElem? he)).1
 rw[lk_get ha he] at hk
 cases hf:lkP b e.1 with
 |none=>
  rw[hf] at hk
  have:=keep_c hw hc hk
  exact absurd this (by decide)
 |some d=>
  rw[hf] at hk
  obtain⟨j,hj⟩:=List.getElem?_of_mem (Zfg hf)
  unfold kept
  rw[show (toP e).k=e.1 from rfl,fO_at hb hj]
  dsimp only
  rw[List.getElem?_map,hj]
  exact hk
theorem noR_of {bs ns:List PO} (hn: ∀q∈bs,ShOk q) (hm: ∀q∈ns,ShOk q) (hL:LtH bs ns) (i:Nat) (hi:i<bs.length):NoR (coA (bs.map toS) (ns.map toS) i) 6:=by
 obtain⟨q,hq⟩: ∃q,bs[i]? =some q:=⟨_,List.getElem?_eq_getElem hi⟩
 obtain⟨r,hr,hL⟩:=hL i q hq
 obtain⟨n,W1⟩:=(hn q (List.mem_of_getElem? hq)).n
 obtain⟨m,W2⟩:=(hm r (List.mem_of_getElem? hr)).n
 have e1:(coA (bs.map toS) (ns.map toS) i).was=toS q:=by simp[coA,hq]
 have e2:(coA (bs.map toS) (ns.map toS) i).is=toS r:=by simp[coA,hr]
 have e3:(coA (bs.map toS) (ns.map toS) i).gone=false:=by simp[coA,hr]
 generalize coA (bs.map toS) (ns.map toS) i=c at e1 e2 e3
 intro j hj
 have h6:j=0∨j=1∨j=2∨j=3∨j=4∨j=5:=by omega
 rcases h6 with rfl|rfl|rfl|rfl|rfl|rfl
 ·exact e3
 ·show clV c=false
  have:=hL.c
  simp[clV,e1,e2,toS,this]
 ·show oaV c=false
  cases hx:q.x with
  |false=>simp[oaV,e1,e2,toS,hx,(hL.x hx).1]
  |true=>simp[oaV,e1,toS,hx]
 ·show opV c=false
  cases hx:q.x with
  |false=>simp[opV,e1,e2,toS,(hL.x hx).2.1,eqB_same]
  |true=>simp[opV,e1,toS,hx]
 ·show mkV c=false
  cases hx:q.x with
  |false=>
   simp only[mkV,e1,e2,toS,hx,Bool.not_false,Bool.true_and,List.any_eq_false]
   intro p hp
   obtain⟨e,he,rfl⟩:=List.mem_map.1 hp
   obtain⟨k,hk⟩:=List.getElem?_of_mem he
   have h1:=(hL.x hx).2.2 e.1 (has_at hk)
   unfold hasP at h1
   obtain⟨e2,he2,hk2⟩:=List.any_eq_true.1 h1
   obtain⟨z,hz⟩:=List.getElem?_of_mem he2
   have h2:=fO_at W1 hz
   rw[show e2.1=e.1 by simpa using hk2] at h2
   rw[show (toP e).k=e.1 from rfl,h2]
   simp
  |true=>simp[mkV,e1,toS,hx]
 ·show prV c=false
  simp only[prV,List.any_eq_false,e1,e2]
  intro k hk
  have hk2:k<q.ps.length:=by simpa [toS] using List.mem_range.1 hk
  obtain⟨e,he⟩: ∃e,q.ps[k]? =some e:=⟨_,List.getElem?_eq_getElem hk2⟩
  have hp:(toS q).ps[k]? =some (toP e):=by show (q.ps.map toP)[k]? =_;rw[List.getElem?_map,he];rfl
  unfold Nc
  rw[hp]
  dsimp only
  cases hl:Lr (toP e) with
  |true=>simp
  |false=>
   rw[show (toS r).ps=r.ps.map toP from rfl,kept_at W1 W2 he hl (hL.k e.1).2]
   simp
theorem broken_h (a b:List PO) (A1 A2:Option Addr) (c1 c2:Nat) (w:World) (hT:Lib.Utf8Tabs 1 2 w) (hL:LtH a b) (hza:a.length<=100000) (hzb:b.length<=100000) (ha: ∀s∈a,ShOk s) (hb: ∀s∈b,ShOk s) (hR1:Zbb w A1 a) (hR2:Zbb w A2 b):Calls Tryz.prog 14 #[.slice A1 a.length c1, .slice A2 b.length c2] w fun e w'=>e= .returned (.tuple #[.int .i64 0, .int .i64 0])/\Below w.heap.size w w':=by
 have G: ∀(l:List PO),(∀s∈l,ShOk s)-> ∀s∈l,s.p.x<2^64/\s.ps.length<=1000000/\ ∀e∈s.ps,OkK e.1/\FD e.2:=fun l h s hs=>⟨(h s hs).px,(h s hs).z,fun e he=>⟨good_OkK ((h s hs).n.elim (fun _ k=>(k.e e he).2.1)),(h s hs).fd e he⟩⟩
 have hK:=hb
 have h0:=Up A1 A2 c1 c2 (a.map toS) (b.map toS) w (Zc6 hR1 (G a ha)) (Zc6 hR2 (G b hb)) (by rw[List.length_map];exact hza) (by rw[List.length_map];exact hzb) hT
 rw[List.length_map,List.length_map] at h0
 refine h0.mono ?_
 rintro e w' ⟨o,r,rfl,(⟨rfl,rfl, -⟩|⟨i,j,hi,hj, -, -,hb, -, -⟩),hB⟩
 ·exact⟨rfl,hB⟩
 ·rw[List.length_map] at hi
  rw[noR_of ha hK hL i hi j hj] at hb
  cases hb
end
section
open Go Go.Proofs Go.Maps Go.RowKit FM Tryz
attribute [local go_sem] Al Ak Ar Ah Am Ai Au Dd Db Bi Aj Bh
structure AlJ (B i:Nat) (h:HP) (ms:List MO):Prop where
 b:h.b=B
 gd:h.Gd (43800+i)
 wh:WhH h
 len:ms.length=i
 ok: ∀m∈ms,m.Ok h
def acB (t:AT):Bool:=decide (t.W=71)||decide (t.W=0)
def HoC (T:HP->List Ob) (h:HP) (i:Nat) (w wq:World):Prop:= ∃h1:HP,(h1.b=h.b/\h1.Gd (43800+(i+1))/\WhH h1/\LtH h.abs h1.abs)/\Hid (Sy w wq [] (T h1))
theorem HoC.mk {T:HP->List Ob} {h:HP} {i:Nat} {w wq:World} (h1:HP) (e:h1.b=h.b/\h1.Gd (43800+(i+1))/\WhH h1/\LtH h.abs h1.abs) (S:Hid (Sy w wq [] (T h1))):HoC T h i w wq:=⟨h1,e,S⟩
theorem holds_l (c f d:Int) (A2:Option Addr) (c2:Nat) (fs:List AT) (w:World) (hT:Tabs w) (h6:6<=w.heap.size) (hf1:f<=9223372036854775807) (hfz:fs.length<=1000000) (hfs: ∀t∈fs,t.Ok/\t.ds.length<=43800/\ ∀X,Below w.heap.size w X->t.Reads X) (hA:ReadsG actC 59 w A2 fs):Calls prog 4 #[.agg (Vx c f d (.slice A2 fs.length c2)).toArray] w fun e w'=>e= .returned (.bool true)/\Below w.heap.size w w':=by
 have SS:=Ab (Sy.nil w [])
 go_enter func4,ntmps4
 go_wp2_with (first|go_skip|((with_reducible show wpList ..);((with_reducible show wpList _ _ _ (Oper.mk _ (Op.box _ _) _ _ _ _::_) _ _);(refine zB 24 (Vx c f d (.slice A2 fs.length c2)) rfl rfl rfl SS ?_;clear SS;intro Xa Ba SS;simp only[nn]))))
 refine(ZfI _ (hT.fr (Aa SS).fr (by simp)).1).mono ?_
 rintro _ Yw ⟨rfl,hYw⟩
 replace SS:=Ab ((Aa SS).on hYw)
 clear hYw
 go_wp2_with (first|go_skip|((with_reducible show wpList ..);((with_reducible show wpList _ _ _ (Oper.mk _ (Op.load _ _) _ _ _ _::_) _ _);(refine rd rfl (Ad 3 isAgg3 rfl rfl ((Aa SS).hold 0 rfl) rfl) ?_))))
 refine(new_h c f d _ (Nat.le_trans h6 (Aa SS).fr.size)).mono ?_
 rintro _ Y3 (⟨hb,rfl,hY3⟩|⟨hb,B,rfl,hI,hB,hY3⟩)
 ·go_wp2_with fail
  refine(Zat 7 _).mono ?_
  rintro _ _ ⟨rfl,rfl⟩
  go_wp2_with fail
  refine(Zat 7 _).mono ?_
  rintro _ _ ⟨rfl,rfl⟩
  go_wp2_with fail
  refine(Zat 7 _).mono ?_
  rintro _ _ ⟨rfl,rfl⟩
  go_wp2_with fail
  go_ret
  exact⟨rfl,((Aa SS).on hY3).fr.below⟩
 ·replace SS:=Ab (new_sy (Aa SS) hI hB hY3)
  obtain⟨h0,hh0⟩: ∃h0,h0=Oz B c f d:=⟨_,rfl⟩
  have G0:h0.Gd 43800:=by rw[hh0];exact(new_gd (B:=B) hb hf1).mono (by omega)
  have W0:WhH h0:=by rw[hh0];exact WhH.new B c f d
  have hb0:h0.b=B:=by rw[hh0];rfl
  rw[←hh0] at SS
  clear hI hB hY3 hh0
  go_wp2_with fail
  refine(Zat 0 _).mono ?_
  rintro _ _ ⟨rfl,rfl⟩
  go_wp2_with (first|go_skip|((with_reducible show wpList ..);((with_reducible show wpList _ _ _ (Oper.mk _ (Op.binOp _ _ _ _ _) _ _ _ _::_) _ _);(refine rd rfl (ex_neP rfl rfl) ?_))))
  refine(Zat 0 _).mono ?_
  rintro _ _ ⟨rfl,rfl⟩
  by_cases h60:fs.length<=60
  ·have d60:decide ((60:Int)<(fs.length:Int))=false:=decide_eq_false (by omega)
   replace SS:=Ab (Sy.nilRow (Aa SS) 0 61 1)
   have hq0:=(Aa SS).add (o:=Pv []) (Zck []) (fun m hm=>by cases hm) (Below.refl _ _) (fun b hb=>by cases hb)
   replace SS:=Ab hq0
   clear hq0
   go_wp2_with (first|go_skip|((with_reducible show wpList ..);first|((with_reducible show wpList _ _ _ (Oper.mk _ (Op.load _ _) _ _ _ _::_) _ _);(refine rd rfl (Ad 22 isAgg22 rfl rfl ((Aa SS).hold 0 rfl) rfl) ?_))|((with_reducible show wpList _ _ _ (Oper.mk _ (Op.call _) _ _ _ _::_) _ _);(refine rd rfl (Bp 22 56 underlying22 rfl rfl) ?_))|(refine rd rfl (Zex false rfl rfl rfl d60) ?_)))
   go_loopg [5,6] fs.length (fun gm s5 s6 wr=> ∃(i:Nat) (h:HP) (Aw:Option Addr) (cw:Nat) (ms:List MO),s5= .slice Aw i cw/\s6= .int .i64 (i:Nat)/\i<=fs.length/\fs.length - i<=gm/\Hid (AlJ B i h ms)/\Hid (Sy w wr [] [Av Ba (Vx c f d (.slice A2 fs.length c2)),hpO h,Ec 0 61 1 (.slice Aw i cw) i (ms.flatMap (fun m=> [MO.v m])),Pv ms]))
   case atStart=>exact⟨0,h0,none,0, [],rfl,rfl,by omega,by omega,Ab ⟨hb0,G0,W0,rfl,fun q hq=>by cases hq⟩,SS⟩
   case round=>
    clear SS
    obtain⟨i,h,Aw,cw,ms,rfl,rfl,hil,hgm,HA,SS⟩:=hrel
    by_cases hlt:i<fs.length
    ·have dlt:decide ((i:Int)<(fs.length:Int))=true:=decide_eq_true (by omega)
     have hw1:IntKind.i64.wrap ((i:Int)+1)=(i:Int)+1:=by rw[IntKind.wrap_i64];omega
     obtain⟨t,hx⟩: ∃t,fs[i]? =some t:=⟨_,List.getElem?_eq_getElem hlt⟩
     obtain⟨hOk,hds,hrd⟩:=hfs t (List.mem_of_getElem? hx)
     obtain⟨ba,oa,rfl,hba,hra⟩:=hA i t hx
     have HAT:Hid (∀X,Below w.heap.size w X->X.rangeAt ba (oa+i * 59) (actC t)):=Ab (fun X hX=>Jj hra hba hX)
     have HLT:=Ab hlt
     have H60:Hid (i<60):=Ab (by omega)
     have hAI:=Aa HA
     have G:=hAI.gd
     have hW:=hAI.wh
     have hBh:=hAI.b
     clear hlt hx hra hil hAI
     subst hBh
     go_upto_region 12 with (first|go_skip|((with_reducible show wpList ..);first|((with_reducible show wpList _ _ _ (Oper.mk _ (Op.load _ _) _ _ _ _::_) _ _);(refine rd rfl (Ad 22 isAgg22 rfl rfl ((Aa SS).hold 0 rfl) rfl) ?_))|((with_reducible show wpList _ _ _ (Oper.mk _ (Op.call _) _ _ _ _::_) _ _);(refine rd rfl (Bp 22 56 underlying22 rfl rfl) ?_))))
     go_cut [74] from 52 to 108 (fun s74 wq=>s74= .bool (acB t)/\Hid (Sy w wq [] [Av Ba (Vx c f d (.slice (some ⟨ba,oa,none⟩) fs.length c2)),hpO h,Ec 0 61 1 (.slice Aw i cw) i (ms.flatMap (fun m=> [MO.v m])),Pv ms]))
     case first=>
      by_cases h71:t.W=71
      ·have d71:decide (t.W=71)=true:=decide_eq_true h71
       have hac:acB t=true:=by simp[acB,d71]
       clear h71
       go_wp2_with (first|go_skip|((with_reducible show wpList ..);first|((with_reducible show wpList _ _ _ (Oper.mk _ (Op.load _ _) _ _ _ _::_) _ _);(refine rd rfl (Ad 22 isAgg22 rfl rfl ((Aa SS).hold 0 rfl) rfl) ?_))|((with_reducible show wpList _ _ _ (Oper.mk _ (Op.indexAddr _ _ _) _ _ _ _::_) _ _);(refine rd rfl (Bw 22 59 i unTs idTs rfl rfl rfl (Aa HLT)) ?_))|((with_reducible show wpList _ _ _ (Oper.mk _ (Op.load _ _) _ _ _ _::_) _ _);(refine rd rfl (Zr 3 isAgg3 rfl rfl (Aa HAT _ (Aa SS).fr.below) rfl) ?_))|((with_reducible show wpList _ _ _ (Oper.mk _ (Op.binOp _ _ _ _ _) _ _ _ _::_) _ _);(refine rd rfl (En true rfl rfl rfl d71) ?_))))
       go_meet
       case rel=>exact⟨by rw[hac],SS⟩
      ·have d71:decide (t.W=71)=false:=decide_eq_false h71
       obtain⟨b0,d0⟩: ∃b0,decide (t.W=0)=b0:=⟨_,rfl⟩
       have hac:acB t=b0:=by simp[acB,d71,d0]
       clear h71
       cases b0
       ·go_wp2_with (first|go_skip|((with_reducible show wpList ..);first|((with_reducible show wpList _ _ _ (Oper.mk _ (Op.load _ _) _ _ _ _::_) _ _);(refine rd rfl (Ad 22 isAgg22 rfl rfl ((Aa SS).hold 0 rfl) rfl) ?_))|((with_reducible show wpList _ _ _ (Oper.mk _ (Op.indexAddr _ _ _) _ _ _ _::_) _ _);(refine rd rfl (Bw 22 59 i unTs idTs rfl rfl rfl (Aa HLT)) ?_))|((with_reducible show wpList _ _ _ (Oper.mk _ (Op.load _ _) _ _ _ _::_) _ _);(refine rd rfl (Zr 3 isAgg3 rfl rfl (Aa HAT _ (Aa SS).fr.below) rfl) ?_))|((with_reducible show wpList _ _ _ (Oper.mk _ (Op.binOp _ _ _ _ _) _ _ _ _::_) _ _);(refine rd rfl (En false rfl rfl rfl d71) ?_))|((with_reducible show wpList _ _ _ (Oper.mk _ (Op.binOp _ _ _ _ _) _ _ _ _::_) _ _);(refine rd rfl (En false rfl rfl rfl d0) ?_))))
        go_meet
        case rel=>exact⟨by rw[hac],SS⟩
       ·go_wp2_with (first|go_skip|((with_reducible show wpList ..);first|((with_reducible show wpList _ _ _ (Oper.mk _ (Op.load _ _) _ _ _ _::_) _ _);(refine rd rfl (Ad 22 isAgg22 rfl rfl ((Aa SS).hold 0 rfl) rfl) ?_))|((with_reducible show wpList _ _ _ (Oper.mk _ (Op.indexAddr _ _ _) _ _ _ _::_) _ _);(refine rd rfl (Bw 22 59 i unTs idTs rfl rfl rfl (Aa HLT)) ?_))|((with_reducible show wpList _ _ _ (Oper.mk _ (Op.load _ _) _ _ _ _::_) _ _);(refine rd rfl (Zr 3 isAgg3 rfl rfl (Aa HAT _ (Aa SS).fr.below) rfl) ?_))|((with_reducible show wpList _ _ _ (Oper.mk _ (Op.binOp _ _ _ _ _) _ _ _ _::_) _ _);(refine rd rfl (En false rfl rfl rfl d71) ?_))|((with_reducible show wpList _ _ _ (Oper.mk _ (Op.binOp _ _ _ _ _) _ _ _ _::_) _ _);(refine rd rfl (En true rfl rfl rfl d0) ?_))))
        go_meet
        case rel=>exact⟨by rw[hac],SS⟩
     case rest=>
      clear SS
      obtain⟨hs74,SS⟩:=hcut
      subst hs74
      go_upto_if 74 with fail
      go_cut [] from 52 to 108 (HoC (fun h1=> [Av Ba (Vx c f d (.slice (some ⟨ba,oa,none⟩) fs.length c2)),hpO h1,Ec 0 61 1 (.slice Aw i cw) i (ms.flatMap (fun m=> [MO.v m])),Pv ms]) h i w)
      case first=>
       cases hac:acB t
       ·go_wp2_with fail
        go_meet
        case rel=>exact HoC.mk h ⟨rfl,G.mono (by omega),hW,LtH.refl (n:=h.l.length) (fun q hq=>hW q hq)⟩ SS
       ·go_wp2_with (first|go_skip|((with_reducible show wpList ..);first|((with_reducible show wpList _ _ _ (Oper.mk _ (Op.load _ _) _ _ _ _::_) _ _);(refine rd rfl (Ad 22 isAgg22 rfl rfl ((Aa SS).hold 0 rfl) rfl) ?_))|((with_reducible show wpList _ _ _ (Oper.mk _ (Op.indexAddr _ _ _) _ _ _ _::_) _ _);(refine rd rfl (Bw 22 59 i unTs idTs rfl rfl rfl (Aa HLT)) ?_))|((with_reducible show wpList _ _ _ (Oper.mk _ (Op.load _ _) _ _ _ _::_) _ _);(refine rd rfl (Br (vs:=actC t) 56 59 rwT szT rfl rfl (Aa HAT _ (Aa SS).fr.below) rfl) ?_))))
        have hW7:t.W=71∨t.W=0:=by simpa [acB] using hac
        have HC:=act7_i h (43800+i) t _ ((Aa SS).hp 1 rfl) G (by have:=Aa H60;omega) (hT.fr (Aa SS).fr (by simp)) hOk hW7 (by omega) (fun X hX=>hrd X ((Aa SS).fr.trans hX (fun b hb=>(Aa SS).lo (hpO h) (List.mem_of_getElem? (i:=1) rfl) b hb)).below)
        refine HC.mono ?_
        rintro _ Y2 ⟨h1,n,rfl,g1,T1, -,hlb⟩
        have hB1:=T1.hb
        replace SS:=Ab ((Aa SS).heap 1 rfl T1)
        clear T1 HC
        go_wp2_with fail
        go_meet
        case rel=>exact HoC.mk h1 ⟨hB1,g1,hlb hW⟩ SS
      case rest=>
       clear SS
       obtain⟨h1,⟨hb1,g1,hw1_,hlt1⟩,SS⟩:=hcut
       dsimp only at SS
       have HB1:=Ab hb1
       have HL1:=Ab (And.intro hw1_ hlt1)
       have HG1:=Ab g1
       have h60:=Aa H60
       clear hb1 hw1_ hlt1 G hW hOk hds hrd
       go_wp2_with fail
       have HSH:=shapes_h h1 _ ((Aa SS).hp 1 rfl) g1.wf.ok.len (fun j q hj=>Nat.lt_of_le_of_lt (g1.few j q hj) (by omega))
       rw[Aa HB1] at HSH
       refine HSH.mono ?_
       rintro _ Y5 ⟨A5,c5,vs5,rfl,S5⟩
       replace SS:=Ab (Sy.beside (Aa SS) S5)
       clear S5 HSH
       have hq5:=mom_one (L:= [Av Ba (Vx c f d (.slice (some ⟨ba,oa,none⟩) fs.length c2)),hpO h1,Ec 0 61 1 (.slice Aw i cw) i (ms.flatMap (fun m=> [MO.v m])),Pv ms]) (M:= []) (Aa SS)
       replace SS:=Ab hq5
       clear hq5
       obtain⟨m5,hm5⟩: ∃m5:MO,m5=⟨A5,h1.l.length,c5,h1.abs,vs5⟩:=⟨_,rfl⟩
       rw[←hm5] at SS
       have HM5:Hid (m5.Ok h1):=Ab (by rw[hm5];exact⟨Vv h1,(abs_ok ((Aa SS).hp 1 rfl) g1 (by omega)).1,sh_ok ((Aa SS).hp 1 rfl) g1 (by omega) (Aa HL1).1,LtH.refl (n:=h1.l.length) (fun q hq=>(Aa HL1).1 q hq)⟩)
       have HME:=Ab hm5
       clear hm5 g1 h60
       go_wp2_with fail
       go_loopg [8] i (fun gm2 s8 wr2=> ∃k:Nat,s8= .int .i64 (k:Nat)/\k<=i/\i - k<=gm2/\Hid (Sy w wr2 [] [Av Ba (Vx c f d (.slice (some ⟨ba,oa,none⟩) fs.length c2)),hpO h1,Ec 0 61 1 (.slice Aw i cw) i (ms.flatMap (fun m=> [MO.v m])),Pv ms,Pv [m5]]))
       case atStart=>exact⟨0,rfl,by omega,by omega,SS⟩
       case round=>
        clear SS
        obtain⟨k,rfl,hkk,hkg,SS⟩:=hrel
        by_cases hlk:k<i
        ·obtain⟨m,hm⟩: ∃m,ms[k]? =some m:=⟨_,List.getElem?_eq_getElem (by have:=(Aa HA).len;omega)⟩
         have hmm:=List.mem_of_getElem? hm
         obtain⟨g,c9,h9, -, -⟩:=On (f:=fun m=> [MO.v m]) (k:=1) (fun _=>rfl) (show World.ownsRow _ _ _ 1 (.slice Aw i cw) i (ms.flatMap (fun m=> [MO.v m])) from (Aa SS).get 2 rfl) (Aa HA).len k (by have:=(Aa HA).len;omega)
         cases h9
         have HM2:Hid (∀X,Sy w X [] [Av Ba (Vx c f d (.slice (some ⟨ba,oa,none⟩) fs.length c2)),hpO h1,Ec 0 61 1 (.slice (some ⟨g,0,none⟩) i cw) i (ms.flatMap (fun m=> [MO.v m])),Pv ms,Pv [m5]]->X.rangeAt g (0+k * 1) [MO.v m]):=Ab (fun X hX=>by
          have h8:=On (f:=fun m=> [MO.v m]) (k:=1) (fun _=>rfl) (show World.ownsRow _ _ _ 1 (.slice (some ⟨g,0,none⟩) i cw) i (ms.flatMap (fun m=> [MO.v m])) from hX.get 2 rfl) (Aa HA).len k (by have:=(Aa HA).len;omega)
          obtain⟨g2,c8,h7, -, -,h6⟩:=h8
          cases h7
          rw[(List.getElem?_eq_some_iff.1 hm).2] at h6
          exact h6)
         have dk:decide ((k:Int)<(i:Int))=true:=decide_eq_true (by omega)
         have hw2:IntKind.i64.wrap ((k:Int)+1)=(k:Int)+1:=by have:=Aa H60;rw[IntKind.wrap_i64];omega
         have HLK:Hid (k<i):=Ab hlk
         clear hlk hkk
         have MK:=(Aa HA).ok m hmm
         have hzm:m.l.length<=100000:=by have a1:=(MK.lt.trans (Aa HL1).2).len;rw[Vv] at a1;have:=(Aa HG1).wf.ok.len;omega
         go_wp2_with (first|go_skip|((with_reducible show wpList ..);first|((with_reducible show wpList _ _ _ (Oper.mk _ (Op.call _) _ _ _ _::_) _ _);(refine rd rfl (Bp 35 61 underlying35 rfl rfl) ?_))|((with_reducible show wpList _ _ _ (Oper.mk _ (Op.indexAddr _ _ _) _ _ _ _::_) _ _);(refine rd rfl (Bw 35 1 k unL1 idL1 rfl rfl rfl (Aa HLK)) ?_))|((with_reducible show wpList _ _ _ (Oper.mk _ (Op.load _ _) _ _ _ _::_) _ _);(refine rd rfl (Zr 61 isAgg61 rfl rfl (Aa HM2 _ (Aa SS)) rfl) ?_))))
         have HLA:=broken_h m.l h1.abs m.A A5 m.c c5 _ (hT.fr (Aa SS).fr (by simp)).1 (MK.lt.trans (Aa HL1).2) hzm (by rw[Vv];have:=(Aa HG1).wf.ok.len;omega) MK.ok (sh_ok ((Aa SS).hp 1 rfl) (Aa HG1) (by have:=Aa H60;omega) (Aa HL1).1) (ZbB (h:=h) ((Aa SS).get 3 rfl) hmm MK) (by have h9:=ZbB (h:=h1) (m:=m5) ((Aa SS).get 4 rfl) (List.mem_singleton.2 rfl) (Aa HM5);rw[Aa HME] at h9;exact h9)
         rw[MK.n,Vv] at HLA
         refine HLA.mono ?_
         rintro _ Y6 ⟨rfl,hY6⟩
         replace SS:=Ab ((Aa SS).on hY6)
         clear hY6 HLA MK
         go_wp2
         go_roundg (i - (k+1))
         case measure=>have:=Aa HLK;omega
         case rel=>exact⟨k+1,by go_num,by have:=Aa HLK;omega,by omega,SS⟩
        ·obtain rfl:k=i:=by omega
         clear hkk hkg
         have dk:decide ((k:Int)<(k:Int))=false:=decide_eq_false (by omega)
         go_wp2_with (first|go_skip|((with_reducible show wpList ..);first|((with_reducible show wpList _ _ _ (Oper.mk _ (Op.call _) _ _ _ _::_) _ _);(refine rd rfl (Bp 35 61 underlying35 rfl rfl) ?_))|((with_reducible show wpList _ _ _ (Oper.mk _ (Op.buildSlice _ _ _) _ _ _ _::_) _ _);((refine bsS (e:=61) (size:=1) (bytes:=24) (z:= .slice none 0 0) (v:= .slice A5 h1.l.length c5) (cs:= [.slice A5 h1.l.length c5]) rfl rfl underlying35 infL1 rfl rfl (Aa SS) ?_);intro X3 B3 hE3 L3 hb3;replace SS:=Ab L3;clear L3 hb3 hE3;simp only[nn]))|((with_reducible show wpList _ _ _ (Oper.mk _ (Op.call _) _ _ _ _::_) _ _);((refine apS (e:=61) (size:=1) (bytes:=24) (z:= .slice none 0 0) (k:=k) (xs:=ms.flatMap (fun m=> [MO.v m])) (news:= [.slice A5 h1.l.length c5]) 2 5 rfl rfl rfl rfl underlying35 infL1 rfl (by omega) (Aa SS) rfl rfl rfl (by simp[Value.oneCell']) (by have:=Aa H60;omega) (by omega) (Nat.zero_le _) ?_);intro A4 c4 X4 S4;replace SS:=Ab S4;clear S4;simp only[nn]))))
         have hq:=mom_snoc (L:= [Av Ba (Vx c f d (.slice (some ⟨ba,oa,none⟩) fs.length c2)),hpO h1,Ec 0 61 1 (.slice A4 (k+1) c4) (k+1) (ms.flatMap (fun m=> [MO.v m])++ [.slice A5 h1.l.length c5])]) (M:= [Av B3 [.slice A5 h1.l.length c5]]) (Aa SS)
         have e9:ms.flatMap (fun m=> [MO.v m])++ [.slice A5 h1.l.length c5]=(ms++ [m5]).flatMap (fun m=> [MO.v m]):=by rw[Aa HME];simp[MO.v]
         rw[e9] at hq
         replace SS:=Ab hq
         clear hq e9
         go_roundg (fs.length - (k+1))
         case measure=>have:=Aa HLT;omega
         case rel=>exact⟨k+1,h1,A4,c4,ms++ [m5],rfl,by go_num,by have:=Aa HLT;omega,by omega,Ab ⟨Aa HB1,Aa HG1,(Aa HL1).1,by rw[List.length_append,(Aa HA).len];rfl,fun q hq=>by
           rcases List.mem_append.1 hq with h3|h3
           ·have:=(Aa HA).ok q h3
            exact⟨this.n,this.z,this.ok,this.lt.trans (Aa HL1).2⟩
           ·rw[List.mem_singleton.1 h3]
            exact Aa HM5⟩,SS⟩
    ·obtain rfl:i=fs.length:=by omega
     have dlt:decide ((fs.length:Int)<(fs.length:Int))=false:=decide_eq_false (by omega)
     go_wp2_with (first|go_skip|((with_reducible show wpList ..);first|((with_reducible show wpList _ _ _ (Oper.mk _ (Op.load _ _) _ _ _ _::_) _ _);(refine rd rfl (Ad 22 isAgg22 rfl rfl ((Aa SS).hold 0 rfl) rfl) ?_))|((with_reducible show wpList _ _ _ (Oper.mk _ (Op.call _) _ _ _ _::_) _ _);(refine rd rfl (Bp 22 56 underlying22 rfl rfl) ?_))))
     go_ret
     exact⟨rfl,(Aa SS).fr.below⟩
  ·have d60:decide ((60:Int)<(fs.length:Int))=true:=decide_eq_true (by omega)
   go_wp2_with (first|go_skip|((with_reducible show wpList ..);first|((with_reducible show wpList _ _ _ (Oper.mk _ (Op.load _ _) _ _ _ _::_) _ _);(refine rd rfl (Ad 22 isAgg22 rfl rfl ((Aa SS).hold 0 rfl) rfl) ?_))|((with_reducible show wpList _ _ _ (Oper.mk _ (Op.call _) _ _ _ _::_) _ _);(refine rd rfl (Bp 22 56 underlying22 rfl rfl) ?_))|(refine rd rfl (Zex true rfl rfl rfl d60) ?_)))
   refine(Zat 0 _).mono ?_
   rintro _ _ ⟨rfl,rfl⟩
   go_wp2_with (first|go_skip|((with_reducible show wpList ..);first|((with_reducible show wpList _ _ _ (Oper.mk _ (Op.load _ _) _ _ _ _::_) _ _);(refine rd rfl (Ad 22 isAgg22 rfl rfl ((Aa SS).hold 0 rfl) rfl) ?_))|((with_reducible show wpList _ _ _ (Oper.mk _ (Op.call _) _ _ _ _::_) _ _);(refine rd rfl (Bp 22 56 underlying22 rfl rfl) ?_))|(refine rd rfl (Zex true rfl rfl rfl d60) ?_)))
   go_ret
   exact⟨rfl,(Aa SS).fr.below⟩
