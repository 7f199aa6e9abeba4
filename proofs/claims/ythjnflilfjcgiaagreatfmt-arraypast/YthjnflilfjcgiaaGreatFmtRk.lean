import Derived.Test.YthjnflilfjcgiaaGreatFmtRj
set_option linter.all false
namespace Go.Proofs.YthjnflilfjcgiaaGreatFmt
set_option maxRecDepth 100000
set_option maxHeartbeats 0
section
open Go Go.Proofs Go.Maps Go.RowKit FM Tryz
attribute [local go_sem] Ad Ag Ak Df Bi Ae Bg
attribute [local go_sem] Eg Ea Gi
theorem ex_neT {o:Oper} {a:Act} {w:World} {x y:Operand} {b c:Nat} (h:FloatKind.f64.format.order b c=some Ordering.eq) (ho:o.op= .binOp .neq 33 x y 33) (hx:a.eval x= .float .f64 b) (hy:a.eval y= .float .f64 c):(execOp a.eval o).run prog w= .ok (.value (.bool false)) w:=by
 unfold execOp
 simp only[ho,hx,hy]
 simp[go_sem,eqGuard,h]
theorem ex_neU {o:Oper} {a:Act} {w:World} {x y:Operand} {b c:Nat} (h:FloatKind.f64.format.order b c≠some Ordering.eq) (ho:o.op= .binOp .neq 33 x y 33) (hx:a.eval x= .float .f64 b) (hy:a.eval y= .float .f64 c):(execOp a.eval o).run prog w= .ok (.value (.bool true)) w:=by
 unfold execOp
 simp only[ho,hx,hy]
 simp[go_sem,eqGuard,h]
theorem whole_x (h:HP) (x:Nat) (hx:x<2^64) (w:World) (H:h.Is w) (hT:Tabs w):Calls prog 193 #[.pointer (some ⟨h.b,0,none⟩),(Ee x).agg, .func (.func 194) #[] #[]] w fun e w'=>e= .returned (.tuple #[.int .u32 ((MV x % 2^32:Nat):Int), .nilIface])/\Below w.heap.size w w':=by
 generalize hq:MV x % 2^32=q
 have HU: ∀w,_:=fun w=>Zbs x hx w
 rw[hq] at HU
 clear hq
 have SS:=Ab (Sy.nil w [])
 have HH:=Ab H
 clear H
 have HT:=Ab hT
 clear hT
 rw[Dd]
 go_enter func193,ntmps193
 go_wp2_with (first|go_skip|((with_reducible show wpList ..);first|(refine zB 35 (Gc x) (by rfl) rfl rfl rfl SS ?_;clear SS;intro Xa Ba SS;simp only[nn])|(refine zL (Gc x) 35 5 0 rwV szV (by rfl) rfl rfl SS rfl rfl rfl ?_;simp only[nn])))
 have HO:=Jh h x _ ((Aa HH).on (Aa SS).fr.below) ((Aa HT).on (Aa SS).fr.below)
 rw[Dd] at HO
 refine HO.mono ?_
 clear HO
 rintro _ Y ⟨rfl,hb⟩
 replace SS:=Ab ((Aa SS).on hb)
 clear hb
 go_wp2_with fail
 refine(HU _).mono ?_
 rintro _ _ ⟨rfl,rfl⟩
 go_wp2
 go_ret2
 exact⟨rfl,(Aa SS).fr.below⟩
theorem cu32_x (h:HP) (x:Nat) (hx:x<2^64) (w:World) (H:h.Is w) (hT:Tabs w):Calls prog 189 #[.pointer (some ⟨h.b,0,none⟩),(Ee x).agg] w fun e w'=>e= .returned (.tuple #[.int .u32 ((MV x % 2^32:Nat):Int), .nilIface])/\Below w.heap.size w w':=by
 have HW:=fun w H hT=>whole_x h x hx w H hT
 generalize MV x % 2^32=q at HW ⊢
 have SS:=Ab (Sy.nil w [])
 have HH:=Ab H
 clear H
 have HT:=Ab hT
 clear hT
 rw[Dd]
 go_enter func189,ntmps189
 go_wp2_with (first|go_skip|((with_reducible show wpList ..);first|(refine zB 35 (Gc x) (by rfl) rfl rfl rfl SS ?_;clear SS;intro Xa Ba SS;simp only[nn])|(refine zL (Gc x) 35 5 0 rwV szV (by rfl) rfl rfl SS rfl rfl rfl ?_;simp only[nn])))
 have HO:=HW _ ((Aa HH).on (Aa SS).fr.below) ((Aa HT).on (Aa SS).fr.below)
 rw[Dd] at HO
 refine HO.mono ?_
 clear HO
 rintro _ Y ⟨rfl,hb⟩
 replace SS:=Ab ((Aa SS).on hb)
 clear hb
 go_wp2
 go_ret2
 exact⟨rfl,(Aa SS).fr.below⟩
theorem aslen_l (h:HP) (x k:Nat) (hx:IsL x k) (w:World) (H:h.Is w) (hT:Tabs w):Calls prog 187 #[.pointer (some ⟨h.b,0,none⟩),(Ee x).agg] w fun e w'=>e= .returned (.tuple #[.int .u32 (k:Nat), .nilIface])/\Below w.heap.size w w':=by
 have HQ:=Ab hx.ord
 have HW:=fun w H hT=>cu32_x h x hx.lt w H hT
 rw[hx.mv] at HW
 have SS:=Ab (Sy.nil w [])
 have HH:=Ab H
 clear H
 have HT:=Ab hT
 clear hT
 rw[Dd]
 go_enter func187,ntmps187
 go_wp2_with (first|go_skip|((with_reducible show wpList ..);first|(refine zB 35 (Gc x) (by rfl) rfl rfl rfl SS ?_;clear SS;intro Xa Ba SS;simp only[nn])|(refine zL (Gc x) 35 5 0 rwV szV (by rfl) rfl rfl SS rfl rfl rfl ?_;simp only[nn])))
 have HO:=HW _ ((Aa HH).on (Aa SS).fr.below) ((Aa HT).on (Aa SS).fr.below)
 rw[Dd] at HO
 refine HO.mono ?_
 clear HO
 rintro _ Y ⟨rfl,hb⟩
 replace SS:=Ab ((Aa SS).on hb)
 clear hb
 go_wp2_with (first|go_skip|((with_reducible show wpList ..);first|(refine zL (Gc x) 35 5 0 rwV szV (by rfl) rfl rfl SS rfl rfl rfl ?_;simp only[nn])))
 have HO:=Jh h x _ ((Aa HH).on (Aa SS).fr.below) ((Aa HT).on (Aa SS).fr.below)
 rw[Dd] at HO
 refine HO.mono ?_
 clear HO
 rintro _ Y ⟨rfl,hb⟩
 replace SS:=Ab ((Aa SS).on hb)
 clear hb
 go_wp2_with (first|go_skip|((with_reducible show wpList ..);first|(refine rd rfl (Ev rfl rfl) ?_)|(refine rd rfl (ex_neT (Aa HQ) rfl rfl rfl) ?_)))
 go_ret2
 exact⟨rfl,(Aa SS).fr.below⟩
def Em:List Value:= .int .i64 3::Be.cs
def Re (B:Nat):Value:= .iface 141 (.pointer (some ⟨B,0,none⟩))
theorem range_e (w:World):Calls prog 54 #[] w fun e w'=> ∃B,e= .returned (Re B)/\Sy w w' [] [Am B Em]:=by
 have SS:=Ab (Sy.nil w [])
 go_enter func54,ntmps54
 go_wp2_with (first|go_skip|((with_reducible show wpList ..);first|(refine zB 143 (Em) (by rfl) rfl rfl rfl SS ?_;clear SS;intro Xa Ba SS;simp only[nn])))
 go_ret
 exact⟨Ba,rfl,Aa SS⟩
theorem aslen_b (h:HP) (x:Nat) (hx:x<2^64) (hn: ¬∃k,IsL x k) (w:World) (H:h.Is w) (hT:Tabs w):Calls prog 187 #[.pointer (some ⟨h.b,0,none⟩),(Ee x).agg] w fun e w'=> ∃B,e= .returned (.tuple #[.int .u32 0,Re B])/\Sy w w' [] [Am B Em]:=by
 have HW:=fun w H hT=>cu32_x h x hx w H hT
 have HQ:=Ab (ord_no hx (Nat.mod_lt (MV x) (show 0<2^32 by decide)) hn)
 generalize MV x % 2^32=q at HW HQ
 have SS:=Ab (Sy.nil w [])
 have HH:=Ab H
 clear H
 have HT:=Ab hT
 clear hT
 rw[Dd]
 go_enter func187,ntmps187
 go_wp2_with (first|go_skip|((with_reducible show wpList ..);first|(refine zB 35 (Gc x) (by rfl) rfl rfl rfl SS ?_;clear SS;intro Xa Ba SS;simp only[nn])|(refine zL (Gc x) 35 5 0 rwV szV (by rfl) rfl rfl SS rfl rfl rfl ?_;simp only[nn])))
 have HO:=HW _ ((Aa HH).on (Aa SS).fr.below) ((Aa HT).on (Aa SS).fr.below)
 rw[Dd] at HO
 refine HO.mono ?_
 clear HO
 rintro _ Y ⟨rfl,hb⟩
 replace SS:=Ab ((Aa SS).on hb)
 clear hb
 go_wp2_with (first|go_skip|((with_reducible show wpList ..);first|(refine zL (Gc x) 35 5 0 rwV szV (by rfl) rfl rfl SS rfl rfl rfl ?_;simp only[nn])))
 have HO:=Jh h x _ ((Aa HH).on (Aa SS).fr.below) ((Aa HT).on (Aa SS).fr.below)
 rw[Dd] at HO
 refine HO.mono ?_
 clear HO
 rintro _ Y ⟨rfl,hb⟩
 replace SS:=Ab ((Aa SS).on hb)
 clear hb
 go_wp2_with (first|go_skip|((with_reducible show wpList ..);first|(refine rd rfl (Ev rfl rfl) ?_)|(refine rd rfl (ex_neU (Aa HQ) rfl rfl rfl) ?_)))
 refine(range_e _).mono ?_
 rintro _ Y ⟨B,rfl,SB⟩
 replace SS:=Ab ((Aa SS).add (Dr B Em) (SB.get 0 rfl) SB.fr.below (fun b hb=>(SB.lo _ (List.mem_singleton.2 rfl) b hb).resolve_left (by simp)))
 clear SB
 unfold Re
 go_wp2
 go_ret2
 exact⟨B,rfl,Sy.left (L:= [Am B Em]) (M:= [_]) (Aa SS).front⟩
