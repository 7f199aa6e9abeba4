import Derived.Test.YthjnflilfjcgiaaGreatFmtQp
import Derived.Test.YthjnflilfjcgiaaGreatFmtQq
import Derived.Lib.ItoaMem
import Derived.Lib.AppendIntMem
set_option linter.all false
namespace Go.Proofs.YthjnflilfjcgiaaGreatFmt
set_option maxRecDepth 100000
set_option maxHeartbeats 0
section
open Go Go.Proofs Go.RowKit
theorem small72 (u:Nat) (h:u<100) (w:World):Calls Tryz.prog 64 #[.int .u64 (u:Nat), .int .i64 10] w fun e w'=>e= .returned (.string ⟨(Lib.decDigits u).toArray⟩)/\w'=w:=by
 have z:(u:Int)<100:=by omega
 have HS:=hide (fun w=>Tryz.internal_strconv_small u h w)
 generalize Lib.decDigits u=d at *
 go_enter Tryz.func64,Tryz.ntmps64
 go_wp2_with fail
 refine(uh HS _).mono ?_
 rintro e w1 ⟨rfl,rfl⟩
 go_wp2
 go_ret
 exact⟨rfl,rfl⟩
end
section
open Go Go.Proofs Go.RowKit Go.Sort Tryz
def TabP (w : World) : Prop := Lib.TabIs prog w "internal/strconv.uint64pow10" .u64 Lib.pow10Tab
theorem TabP.on {w w':World} (h:TabP w) (hb:Below w.heap.size w w'):TabP w':=by
 unfold TabP Lib.TabIs World.var? at *
 cases hg : prog.globalNamed "internal/strconv.uint64pow10" with
 |none=>simp[hg] at h
 |some g=>
  simp only[hg,Option.bind_some] at h ⊢
  have hlt:g<w.heap.size:=by
   rcases Nat.lt_or_ge g w.heap.size with h'|h'
   ·exact h'
   ·rw[Array.getElem?_eq_none h'] at h;simp at h
  rw[hb.block g hlt]
  exact h
theorem holds0 (w:World) (T:TypeId) (nd:Nat) (hs:nd<=24):Sort.Holds (fun (b:UInt8)=>Value.int .u8 (b.toNat:Int)) (w.alloc (.cells Lib.zeros24 T)) w.heap.size 0 (Array.replicate nd (0:UInt8)):=fun j hj=>by
 have hj':j<nd:=by simpa using hj
 refine⟨?_,World.frozen?_alloc_new _ _ _ _⟩
 rw[World.cell?_alloc_new,Lib.zeros24_at _ (by omega),getElem!_pos _ j hj]
 simp
theorem fin0 (w:World) (o:Obj) (dk:Array UInt8) (k:Nat): ∃os,(Sort.putRow (fun (b:UInt8)=>Value.int .u8 (b.toNat:Int)) (w.alloc o) w.heap.size 0 dk).drewN k=Sort.grow (w.drewN k) os:=by
 rw[Sort.alloc_eq_grow]
 obtain⟨os',_,e⟩:=Sort.putRow_grow_new (fun (b:UInt8)=>Value.int .u8 (b.toNat:Int)) w #[o] w.heap.size 0 dk (Nat.le_refl _)
 exact⟨os',by rw[e];rfl⟩
theorem fmt72 (u:Nat) (h100:100<=u) (hu64:u<18446744073709551616) (w:World) (htab:TabP w):Calls prog 64 #[.int .u64 (u:Nat), .int .i64 10] w fun e w'=>e= .returned (.string ⟨(Lib.decDigits u).toArray⟩)/\Below w.heap.size w w':=by
 have z: ¬(u:Int)<100:=by omega
 have hu1:1<=u:=by omega
 have hnd20:Lib.nDigits u<=20:=by have:=Lib.numDigits_eq u hu1 hu64;split at this<;>omega
 have hal:prog.arrayLen 153=24:=by kernel_rfl
 have hsl: ∀W,(Instr.sliceAt 153 (.pointer (some ⟨w.heap.size,0,none⟩)) none (some (.int .i64 (Lib.nDigits u:Int))) none).run prog W= .ok (.slice (some ⟨w.heap.size,0,none⟩) (Lib.nDigits u) 24) W:=fun W=>by
  rw[run_sliceAt_array_h W 153 ⟨w.heap.size,0,none⟩ (by kernel_rfl) .i64 (Lib.nDigits u:Int) (by omega) (by rw[hal];omega)]
  go_simp
 have hH0:=holds0 w 153 (Lib.nDigits u) (by omega)
 have hfmt:=Tryz.internal_strconv_formatBase10 w.heap.size 0 24 u (Array.replicate (Lib.nDigits u) 0) (w.alloc (.cells Lib.zeros24 153)) hH0 (by rw[Array.size_replicate];exact Lib.lt_pow_nDigits u) hu64 (by rw[Array.size_replicate];omega)
 rw[Array.size_replicate] at hfmt
 have HH0:=hide hH0
 have HF0:=hide hfmt
 have HT:=hide htab
 clear hH0 hal htab hfmt
 go_enter func64,ntmps64
 go_wp2_with fail
 refine(Tryz.internal_strconv_numDigits u hu1 hu64 _ (Lib.tabIs_alloc (uh HT) _)).mono ?_
 rintro e w' ⟨rfl,rfl⟩
 go_wp2_with fail
 refine(uh HF0).mono ?_
 rintro e w' ⟨rfl,k,v',dk,rfl,hF⟩
 have hcv:(convert 156 9 (.slice (some ⟨w.heap.size,0,none⟩) (Lib.nDigits u) 24)).run prog ((putRow (fun (b:UInt8)=>Value.int .u8 (b.toNat:Int)) (w.alloc (.cells Lib.zeros24 153)) w.heap.size 0 dk).drewN k)= .ok (.string ⟨(Lib.decDigits u).toArray⟩) ((putRow (fun (b:UInt8)=>Value.int .u8 (b.toNat:Int)) (w.alloc (.cells Lib.zeros24 153)) w.heap.size 0 dk).drewN k):=by
  have h:=run_convert_bytes_back (P:=prog) ((putRow (fun (b:UInt8)=>Value.int .u8 (b.toNat:Int)) (w.alloc (.cells Lib.zeros24 153)) w.heap.size 0 dk).drewN k) 156 9 5 ⟨w.heap.size,0,none⟩ 24 (Lib.decDigits u) underlying156 underlying5 underlying9 (fun j hj=>by
   rw[Lib.row_is_numeral hF j hj,Lib.add_plain,World.cell?_drewN]
   exact cell?_putRow (fun (b:UInt8)=>Value.int .u8 (b.toNat:Int)) _ w.heap.size 0 _ dk (uh HH0) (by rw[hF.size,Array.size_replicate]) j (by rw[hF.size];rw[Lib.decDigits_length] at hj;exact hj))
  rw[Lib.decDigits_length] at h
  exact h
 go_wp2
 go_ret
 obtain⟨os,eo⟩:=fin0 w (.cells Lib.zeros24 153) dk k
 refine⟨rfl, ?_⟩
 rw[eo]
 exact Lib.below_grow _ _ (Nat.le_refl _) _ _

def dStr (u:Nat):ByteArray:=⟨(Lib.decDigits u).toArray⟩
theorem fmt46 (u:Nat) (hu:u<18446744073709551616) (w:World) (htab:TabP w):Calls prog 40 #[.int .u64 (u:Nat), .int .i64 10] w fun e w'=>e= .returned (.string (dStr u))/\Below w.heap.size w w':=by
 have H72:Hid (∀w,TabP w->Calls prog 64 #[.int .u64 (u:Nat), .int .i64 10] w fun e w'=>e= .returned (.string (dStr u))/\Below w.heap.size w w'):=hide (fun w hT=>by
  by_cases h:u<100
  ·exact(small72 u h w).mono (fun e w' h=>⟨h.1,h.2▸Below.refl _ _⟩)
  ·exact fmt72 u (by omega) hu w hT)
 have HT:=hide htab
 clear htab
 generalize dStr u=s at *
 go_enter func40,ntmps40
 go_wp2_with fail
 refine(uh H72 _ (uh HT)).mono ?_
 rintro _ w1 ⟨rfl,hb⟩
 go_wp2
 go_ret
 exact⟨rfl,hb⟩
