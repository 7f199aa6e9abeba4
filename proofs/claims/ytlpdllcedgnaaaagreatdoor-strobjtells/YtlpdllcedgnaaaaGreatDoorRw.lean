import Derived.Test.YtlpdllcedgnaaaaGreatDoorRv
set_option linter.all false
namespace Go.Proofs.YtlpdllcedgnaaaaGreatDoor
set_option maxRecDepth 100000
set_option maxHeartbeats 0
section
open Go Go.Proofs Go.Maps Go.RowKit FM Tryz
attribute [local go_sem] Ao Ai Am Dq Dp Br Ah Bq
def Qb (w:World) (A:Option Addr) (l:List (KK×DD)):Prop:= ∀(j:Nat) (p:KK×DD),l[j]? =some p-> ∃b off,A=some ⟨b,off,none⟩/\b<w.heap.size/\w.rangeAt b (off+j * 20) (p.1.cs++p.2.cs)
theorem Zco {w X Y:World} {B:Nat} {fu:Int} (S:Sy w X [] []) (hI:(Gf B 1 fu 5).Is Y) (hB:X.heap.size<=B) (hb:Below X.heap.size X Y):Sy w Y [] [hpO (Gf B 1 fu 5)]:=
 S.add (Zm _) hI hb (fun b h=>by
  have:b=B:=by simpa [hpO,Ub] using h
  omega)
theorem Zbl (s:ByteArray) (A:Option Addr) (c:Nat) (ds:List (KK×DD)) (sh:Bool) (w:World) (h6:3<=w.heap.size) (hT:Tabs w) (hR:Qb w A ds) (hF: ∀e∈ds,FD e.2) (hz:40<ds.length):Calls prog 3 #[.string s, .slice A ds.length c, .bool sh] w fun e w'=>e= .returned (.bool true)/\Below w.heap.size w w':=by
 have dlg:decide ((40:Int)<(ds.length:Int))=true:=decide_eq_true (by omega)
 have SS:=Ab (Sy.nil w [])
 have HR:=Ab hR
 have HT:=Ab hT
 have HF:=Ab hF
 clear hR hT hF
 go_enter func3,ntmps3
 go_wp2_with fail
 refine(Mm _ h6 (Aa HT)).mono ?_
 rintro _ X0 ⟨rfl,hb⟩
 replace SS:=Ab ((Aa SS).on hb)
 have h6b:3<=X0.heap.size:=Nat.le_trans h6 hb.size
 clear hb
 go_wp2_with (first|go_skip|((with_reducible show wpList ..);first|((with_reducible show wpList _ _ _ (Oper.mk _ (Op.call _) _ _ _ _::_) _ _);(refine rd rfl (Bu 22 45 underlying22 rfl rfl) ?_))|(refine rd rfl (Lr rfl rfl rfl dlg) ?_)))
 go_ret
 exact⟨rfl,(Aa SS).fr.below⟩
theorem Zbk (s:ByteArray) (A:Option Addr) (c:Nat) (ds:List (KK×DD)) (sh:Bool) (w:World) (h6:3<=w.heap.size) (hT:Tabs w) (hR:Qb w A ds) (hF: ∀e∈ds,FD e.2) (hz:ds.length<=40) (hs:500<s.size):Calls prog 3 #[.string s, .slice A ds.length c, .bool sh] w fun e w'=>e= .returned (.bool true)/\Below w.heap.size w w':=by
 have dlg:decide ((40:Int)<(ds.length:Int))=false:=decide_eq_false (by omega)
 have dsg:decide ((500:Int)<(s.size:Int))=true:=decide_eq_true (by omega)
 have SS:=Ab (Sy.nil w [])
 have HR:=Ab hR
 have HT:=Ab hT
 have HF:=Ab hF
 clear hR hT hF
 go_enter func3,ntmps3
 go_wp2_with fail
 refine(Mm _ h6 (Aa HT)).mono ?_
 rintro _ X0 ⟨rfl,hb⟩
 replace SS:=Ab ((Aa SS).on hb)
 have h6b:3<=X0.heap.size:=Nat.le_trans h6 hb.size
 clear hb
 go_wp2_with (first|go_skip|((with_reducible show wpList ..);first|((with_reducible show wpList _ _ _ (Oper.mk _ (Op.call _) _ _ _ _::_) _ _);(refine rd rfl (Bu 22 45 underlying22 rfl rfl) ?_))|(refine rd rfl (Lr rfl rfl rfl dlg) ?_)|((with_reducible show wpList _ _ _ (Oper.mk _ (Op.slice _ _ _ _ _) _ _ _ _::_) _ _);(refine rd rfl (Oy rfl rfl) ?_))|(refine rd rfl (Lr rfl rfl rfl dsg) ?_)))
 refine(made_any s _ h6b (Db (Aa HT) (Aa SS).fr)).mono ?_
 rintro _ X1 ⟨rfl,hb⟩
 replace SS:=Ab ((Aa SS).on hb)
 clear hb
 go_wp2
 go_ret
 exact⟨rfl,(Aa SS).fr.below⟩
theorem ZcX (s:ByteArray) (A:Option Addr) (c:Nat) (ds:List (KK×DD)) (sh:Bool) (w:World) (h6:3<=w.heap.size) (hT:Tabs w) (hR:Qb w A ds) (hF: ∀e∈ds,FD e.2) (hz:ds.length<=40) (hs:s.size<=500) (hf:Gh s=false):Calls prog 3 #[.string s, .slice A ds.length c, .bool sh] w fun e w'=>e= .returned (.bool true)/\Below w.heap.size w w':=by
 have hv:M.valid false (Az s)=false:=by
  unfold Gh at hf
  cases e:M.valid false (Az s)
  ·rfl
  ·rw[e] at hf;simp at hf;omega
 have dlg:decide ((40:Int)<(ds.length:Int))=false:=decide_eq_false (by omega)
 have dsg:decide ((500:Int)<(s.size:Int))=false:=decide_eq_false (by omega)
 have SS:=Ab (Sy.nil w [])
 have HR:=Ab hR
 have HT:=Ab hT
 have HF:=Ab hF
 clear hR hT hF
 go_enter func3,ntmps3
 go_wp2_with fail
 refine(Mm _ h6 (Aa HT)).mono ?_
 rintro _ X0 ⟨rfl,hb⟩
 replace SS:=Ab ((Aa SS).on hb)
 have h6b:3<=X0.heap.size:=Nat.le_trans h6 hb.size
 clear hb
 go_wp2_with (first|go_skip|((with_reducible show wpList ..);first|((with_reducible show wpList _ _ _ (Oper.mk _ (Op.call _) _ _ _ _::_) _ _);(refine rd rfl (Bu 22 45 underlying22 rfl rfl) ?_))|(refine rd rfl (Lr rfl rfl rfl dlg) ?_)|((with_reducible show wpList _ _ _ (Oper.mk _ (Op.slice _ _ _ _ _) _ _ _ _::_) _ _);(refine rd rfl (Oy rfl rfl) ?_))|(refine rd rfl (Lr rfl rfl rfl dsg) ?_)))
 refine(Xu 100000 _ h6b (by decide)).mono ?_
 rintro _ X1 ⟨B0,rfl,hI,hB0,hb⟩
 replace SS:=Ab (Zco (Aa SS) hI hB0 hb)
 clear hI hb hB0
 go_wp2_with fail
 refine(Oj 0 _).mono ?_
 rintro _ _ ⟨rfl,rfl⟩
 go_wp2_with fail
 refine(Gs _).mono ?_
 rintro _ Y ⟨rfl,hb⟩
 replace SS:=Ab ((Aa SS).on hb)
 clear hb
 go_wp2_with fail
 have HC:=Rl (Gf B0 1 100000 5) s _ ((Aa SS).hp 0 rfl) (Db (Aa HT) (Aa SS).fr) hf
 refine HC.mono ?_
 clear HC
 rintro _ Y1 ⟨rfl,T1⟩
 replace SS:=Ab ((Aa SS).heap 0 rfl T1)
 clear T1
 unfold Mf
 go_wp2_with fail
 refine(Oj 0 _).mono ?_
 rintro _ _ ⟨rfl,rfl⟩
 go_wp2_with fail
 refine(Gn s _ (Db (Aa HT) (Aa SS).fr).1).mono ?_
 rintro _ Y2 ⟨rfl,hb⟩
 replace SS:=Ab ((Aa SS).on hb)
 clear hb
 rw[hv]
 go_wp2
 go_ret
 exact⟨rfl,(Aa SS).fr.below⟩
