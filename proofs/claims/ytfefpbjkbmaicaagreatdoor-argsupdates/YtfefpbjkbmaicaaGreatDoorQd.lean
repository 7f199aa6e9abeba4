import Derived.Test.YtfefpbjkbmaicaaGreatDoorQc
import Derived.Laws.BytesArg
import Derived.Laws.IdiomStrings
import Derived.Deep.AppendLies
set_option linter.all false
namespace Go.Proofs.YtfefpbjkbmaicaaGreatDoor
set_option maxRecDepth 100000
set_option maxHeartbeats 0
section
open Go.RowKit Go.Shelf
def u8v (u:Nat):Value:= .int .u8 (u:Nat)
theorem info5:(Tryz.prog.info? 5).map (fun i=>(i.zero,i.size,i.bytes))=some (some (.int .u8 0),1,1):=by kernel_rfl

theorem nums_of (l:List UInt8):Dg ⟨l.toArray⟩=l.map UInt8.toNat:=rfl
theorem back_u8 (l:List Nat) (h: ∀x∈l,x<256):(l.map UInt8.ofNat).map UInt8.toNat=l:=by
 rw[List.map_map]
 conv=>rhs;rw[←List.map_id l]
 apply List.map_congr_left
 intro x hx
 have:=h x hx
 simp[UInt8.toNat_ofNat']
 omega
theorem run_str (w:World) (B n:Nat) (v:Value) (l:List Nat) (hown:w.ownsRow B 5 1 v n (l.map u8v)) (h256: ∀x∈l,x<256):
  ∃s,(convert 140 9 v).run Tryz.prog w= .ok (.string s) w/\Dg s=l:=by
 obtain⟨hl,h⟩:=hown
 simp only[List.length_map,Nat.mul_one] at hl
 rcases h with ⟨rfl,rfl⟩|⟨g,cap,cur,rfl,hBg,hgb,hnc,hcm,hcs,htk⟩
 ·refine⟨ByteArray.empty,run_convert_bytes_nil w 140 5 Tryz.underlying140 Tryz.underlying5 0 0 9 Tryz.underlying9, ?_⟩
  rw[List.length_eq_zero_iff.1 hl];rfl
 ·refine⟨⟨(l.map UInt8.ofNat).toArray⟩, ?_, ?_⟩
  ·have hlen:(l.map UInt8.ofNat).length=n:=by simp[hl]
   have:=run_convert_bytes_back (P:=Tryz.prog) w 140 9 5 ⟨g,0,none⟩ cap (l.map UInt8.ofNat) Tryz.underlying140 Tryz.underlying5 Tryz.underlying9 (fun j hj=>by
    have hj':j<l.length:=by simpa using hj
    have hx:l[j]<256:=h256 _ (List.getElem_mem hj')
    have hown':w.ownsRow B 5 1 (.slice (some ⟨g,0,none⟩) n cap) n (l.map u8v):=⟨by simp[hl], .inr ⟨g,cap,cur,rfl,hBg,hgb,hnc,hcm,hcs,htk⟩⟩
    have hc:=hown'.cells (g:=g) rfl j (u8v l[j]) (by simp[hj'])
    rw[hc]
    simp only[u8v,List.getElem_map,UInt8.toNat_ofNat']
    rw[Nat.mod_eq_of_lt hx])
   rw[hlen] at this
   exact this
  ·rw[nums_of,back_u8 l h256]

theorem E_256 (c:Nat) (hc:c<=1114111): ∀x∈M.E c,x<256:=by
 unfold M.E;repeat' split
 all_goals (intro x hx;simp at hx;omega)

theorem Ez {B n:Nat} {w w':World} {v:Value} {e:TypeId} {xs:List Value} {tmp:Obj} (hown:w.ownsRow B e 1 v n xs) (hB:B<=w.heap.size) (hgrow:(w.alloc tmp).grownBy w' v.ownBlock):Below B w w':=by
 refine((Below.refl B w).alloc hB tmp).grown hgrow (by simp;omega) fun j ej=> ?_
 rcases hown.2 with ⟨rfl,_⟩|⟨g,cap,cur,rfl,hb,_,_⟩
 ·simp[Value.ownBlock] at ej
 ·obtain rfl:g=j:=by simpa [Value.ownBlock] using ej
  exact hb

theorem Dx (w:World) (cs:Array Value) (t:TypeId): ∀j u,cs.toList[j]? =some u->(w.alloc (.cells cs t)).cell? ((⟨w.heap.size,0,none⟩:Addr).add j)=some u:=
 World.news_of_block (World.alloc_heap_new w _)
theorem put_any (B n:Nat) (v:Value) (xs:List Value) (c:Nat) (hc:c<=1114111) (w:World) (hown:w.ownsRow B 5 1 v n xs) (hlen:n+4<=140737488355328) (hBw:B<=w.heap.size):
  Calls Tryz.prog 116 #[v, .int .i64 (c:Nat)] w fun e w'=> ∃v',e= .returned v'/\w'.ownsRow B 5 1 v' (n+(M.E c).length) (xs++(M.E c).map u8v)/\Below B w w':=by
 obtain⟨i0,hi,hz0,hz1,hz2⟩:=info_parts info5
 unfold M.E
 by_cases h1:c<128
 ·rw[if_pos h1]
  have h1':(c:Int)<128:=by omega
  go_enter Tryz.func116,Tryz.ntmps116
  go_wp2_with (at_builtin;refine wpList_append_own _ rfl _ _ 140 rfl B 5 i0 (.int .u8 0) 1 1 Tryz.underlying140 hi hz0 hz1 hz2 rfl (by decide) _ _ _ rfl (hown.alloc _) ⟨w.heap.size,0,none⟩ 1 1 [.int .u8 (c:Int)] rfl rfl (Dx _ #[.int .u8 (c:Int)] 5) (by simp[Value.oneCell']) (by unfold maxLen;omega) (by omega) (by simp;omega) ?_;intro v' w1 hown' hgrow _)
  go_ret
  refine⟨_,rfl, ?_,Ez hown hBw hgrow⟩
  simpa [u8v] using hown'
 have h1': ¬(c:Int)<128:=by omega
 by_cases h2:c<2048
 ·rw[if_neg h1,if_pos h2]
  have h2':(c:Int)<2048:=by omega
  clear h1 h2
  go_enter Tryz.func116,Tryz.ntmps116
  go_wp2_with (at_builtin;refine wpList_append_own _ rfl _ _ 140 rfl B 5 i0 (.int .u8 0) 1 1 Tryz.underlying140 hi hz0 hz1 hz2 rfl (by decide) _ _ _ rfl (hown.alloc _) ⟨w.heap.size,0,none⟩ 2 2 [.int .u8 (192+(c:Int) / 64), .int .u8 (128+(c:Int) % 64)] rfl rfl (Dx _ #[.int .u8 (192+(c:Int) / 64), .int .u8 (128+(c:Int) % 64)] 5) (by simp[Value.oneCell']) (by unfold maxLen;omega) (by omega) (by simp;omega) ?_;intro v' w1 hown' hgrow _)
  go_ret
  refine⟨_,rfl, ?_,Ez hown hBw hgrow⟩
  simpa [u8v] using hown'
 have h2': ¬(c:Int)<2048:=by omega
 by_cases h3:c<65536
 ·rw[if_neg h1,if_neg h2,if_pos h3]
  have h3':(c:Int)<65536:=by omega
  clear h1 h2 h3
  go_enter Tryz.func116,Tryz.ntmps116
  go_wp2_with (at_builtin;refine wpList_append_own _ rfl _ _ 140 rfl B 5 i0 (.int .u8 0) 1 1 Tryz.underlying140 hi hz0 hz1 hz2 rfl (by decide) _ _ _ rfl (hown.alloc _) ⟨w.heap.size,0,none⟩ 3 3 [.int .u8 (224+(c:Int) / 4096), .int .u8 (128+(c:Int) / 64 % 64), .int .u8 (128+(c:Int) % 64)] rfl rfl (Dx _ #[.int .u8 (224+(c:Int) / 4096), .int .u8 (128+(c:Int) / 64 % 64), .int .u8 (128+(c:Int) % 64)] 5) (by simp[Value.oneCell']) (by unfold maxLen;omega) (by omega) (by simp;omega) ?_;intro v' w1 hown' hgrow _)
  go_ret
  refine⟨_,rfl, ?_,Ez hown hBw hgrow⟩
  simpa [u8v] using hown'
 ·rw[if_neg h1,if_neg h2,if_neg h3]
  have h3': ¬(c:Int)<65536:=by omega
  clear h1 h2 h3
  go_enter Tryz.func116,Tryz.ntmps116
  go_wp2_with (at_builtin;refine wpList_append_own _ rfl _ _ 140 rfl B 5 i0 (.int .u8 0) 1 1 Tryz.underlying140 hi hz0 hz1 hz2 rfl (by decide) _ _ _ rfl (hown.alloc _) ⟨w.heap.size,0,none⟩ 4 4 [.int .u8 (240+(c:Int) / 262144), .int .u8 (128+(c:Int) / 4096 % 64), .int .u8 (128+(c:Int) / 64 % 64), .int .u8 (128+(c:Int) % 64)] rfl rfl (Dx _ #[.int .u8 (240+(c:Int) / 262144), .int .u8 (128+(c:Int) / 4096 % 64), .int .u8 (128+(c:Int) / 64 % 64), .int .u8 (128+(c:Int) % 64)] 5) (by simp[Value.oneCell']) (by unfold maxLen;omega) (by omega) (by simp;omega) ?_;intro v' w1 hown' hgrow _)
  go_ret
  refine⟨_,rfl, ?_,Ez hown hBw hgrow⟩
  simpa [u8v] using hown'
def ZbP (w:World) (v:Value) (l:List Nat):Prop:=
 (∃A c,v= .slice A 0 c/\l= [])∨ ∃b off cap,v= .slice (some ⟨b,off,none⟩) l.length cap/\b<w.heap.size/\ ∀i,i<l.length->w.cell? ⟨b,off+i,none⟩=some (.int .u16 (l.getD i 0:Nat))
theorem Nx (l:List Nat) (k:Nat) (h:k<l.length):l.drop k=l.getD k 0::l.drop (k+1):=by
 rw[List.drop_eq_getElem_cons h,List.getD_eq_getElem?_getD,List.getElem?_eq_getElem h];rfl

