import Derived.Test.YtfefpbjkbmaicaaGreatDoorQd
import Derived.Deep.RegionHeld3
set_option linter.all false
namespace Go.Proofs.YtfefpbjkbmaicaaGreatDoor
set_option maxRecDepth 100000
set_option maxHeartbeats 0
section
open Go.RowKit Go.Shelf
def Zae (u:Nat):Value:= .int .i64 (u:Nat)
def Ld:Nat->List Nat->List (Nat×Nat)
 |_, []=> []
 |k, [a]=> [(k,a)]
 |k,a::b::r=>if M.isHi a && M.isLo b then (k,65536+1024 * (a - 55296)+(b - 56320))::Ld (k+2) r else (k,a)::Ld (k+1) (b::r)
def Jv (l:List (Nat×Nat)):List Value:=l.flatMap fun p=> [Zae p.1,Zae p.2]
theorem rowP_snd: ∀(n k:Nat) (l:List Nat),l.length<=n->(Ld k l).map (·.2)=M.row l:=by
 intro n
 induction n with
 |zero=>
  intro k l h
  have:l= []:=List.eq_nil_of_length_eq_zero (by omega)
  subst this;rfl
 |succ n ih=>
  intro k l h
  match l,h with
  | [],_=>rfl
  | [a],_=>rfl
  |a::b::r,h=>
   simp only[Ld,M.row]
   split
   ·simp only[List.map_cons];rw[ih (k+2) r (by simp at h;omega)]
   ·simp only[List.map_cons];rw[ih (k+1) (b::r) (by simp at h ⊢;omega)]
theorem Zb1 (k a b:Nat) (r:List Nat) (h:(M.isHi a && M.isLo b)=true):Ld k (a::b::r)=(k,65536+1024 * (a - 55296)+(b - 56320))::Ld (k+2) r:=by
 simp only[Ld,h,if_true]
theorem Yz (k a:Nat) (t:List Nat) (h: ∀b r,t=b::r->(M.isHi a && M.isLo b)=false):Ld k (a::t)=(k,a)::Ld (k+1) t:=by
 cases t with
 |nil=>rfl
 |cons b r=>simp[Ld,h b r rfl]
theorem info84:(Tryz.prog.info? 193).map (fun i=>(i.zero,i.size,i.bytes))=some (some (.agg #[.int .i64 0, .int .i64 0]),2,16):=by kernel_rfl
theorem Kn {B n size:Nat} {w w':World} {v:Value} {e:TypeId} {xs:List Value} {tmp:Obj} (hown:w.ownsRow B e size v n xs) (hB:B<=w.heap.size) (hgrow:(w.alloc tmp).grownBy w' v.ownBlock):Below B w w':=by
 refine((Below.refl B w).alloc hB tmp).grown hgrow (by simp;omega) fun j ej=> ?_
 rcases hown.2 with ⟨rfl,_⟩|⟨g,cap,cur,rfl,hb,_,_⟩
 ·simp[Value.ownBlock] at ej
 ·obtain rfl:g=j:=by simpa [Value.ownBlock] using ej
  exact hb

theorem row_any (v:Value) (l:List Nat) (h16: ∀x∈l,x<65536) (hlen:l.length<=1099511627776) (w:World) (hR:ZbP w v l):
  Calls Tryz.prog 115 #[v] w fun e w'=> ∃v',e= .returned v'/\w'.ownsRow w.heap.size 193 2 v' (Ld 0 l).length (Jv (Ld 0 l))/\Below w.heap.size w w':=by
 obtain⟨i0,hi,hz0,hz1,hz2⟩:=info_parts info84
 obtain⟨A,cap,rfl,hA⟩: ∃A cap,v= .slice A l.length cap/\(∀i,i<l.length-> ∃b off,A=some ⟨b,off,none⟩/\b<w.heap.size/\w.cell? ⟨b,off+i,none⟩=some (.int .u16 (l.getD i 0:Nat))):=by
  rcases hR with ⟨A,c,rfl,rfl⟩|⟨b,off,cap,rfl,hlt,hc⟩
  ·exact⟨A,c,rfl,fun i hi=>by simp at hi⟩
  ·exact⟨_,_,rfl,fun i hi=>⟨b,off,rfl,hlt,hc i hi⟩⟩
 have HA:=Ac hA;clear hA hR
 have h16': ∀k,k<l.length->l.getD k 0<65536:=fun k hk=>by
  rw[List.getD_eq_getElem?_getD,List.getElem?_eq_getElem hk];exact h16 _ (List.getElem_mem hk)
 have H16:=Ac h16';clear h16'
 go_enter Tryz.func115,Tryz.ntmps115
 go_wp2
 go_loopw [3,4] (fun o i wr=> ∃(k:Nat) (vo:Value) (ds:List (Nat×Nat)),o=vo/\i= .int .i64 (k:Nat)/\k<=l.length/\Ld 0 l=ds++Ld k (l.drop k)/\ds.length<=k/\wr.ownsRow w.heap.size 193 2 vo ds.length (Jv ds)/\Below w.heap.size w wr) (fun _ i _=>l.length - (intOf i).toNat)
 case atStart=>exact⟨0,_, [],rfl,rfl,by omega,by simp,by simp,World.ownsRow_nil _ _ _ _,Below.refl _ _⟩
 case round=>
  obtain⟨k,vo,ds,rfl,rfl,hk,hrw,hn,hown,hB⟩:=hrel
  have HRW:=Ac hrw;clear hrw
  by_cases hlt:k<l.length
  ·obtain⟨b,off,rfl,hblt,hcell⟩:=Aa HA k hlt
   have hcw:wr.cell? ⟨b,off+k,none⟩=some (.int .u16 (l.getD k 0:Nat)):=(hB.cell (p:=⟨b,off+k,none⟩) hblt).trans hcell
   have ha:=Aa H16 k hlt
   have HDR:=Ac (Nx l k hlt)
   generalize l.getD k 0=a at *
   have HHI:=Ac (Zby a)
   have hk1:(k:Int)<(l.length:Int):=by omega
   have fin1:(∀b' r,l.drop (k+1)=b'::r->(M.isHi a && M.isLo b')=false)->Ld 0 l=(ds++ [(k,a)])++Ld (k+1) (l.drop (k+1)):=by
    intro h
    rw[Aa HRW,Aa HDR,Yz k a _ h];simp
   have FIN1:=Ac fin1;clear fin1
   cases hhi:M.isHi a with
   |false=>
    go_wp2_with fail
    refine(Ps _ _).mono ?_
    rintro e w' ⟨rfl,rfl⟩
    rw[Aa HHI,hhi]
    go_wp2_with (at_builtin;refine wpList_append_own _ rfl _ _ 189 rfl w.heap.size 193 i0 (.agg #[.int .i64 0, .int .i64 0]) 2 16 Tryz.underlying189 hi hz0 hz1 hz2 rfl (by decide) _ _ _ rfl (hown.alloc _) ⟨w'.heap.size,0,none⟩ 1 1 [.int .i64 (k:Int), .int .i64 (a:Int)] rfl rfl (Dx _ #[.int .i64 (k:Int), .int .i64 (a:Int)] 193) (by simp[Value.oneCell']) (by unfold maxLen;omega) (by omega) (by have:=hB.size;simp;omega) ?_;intro v' w1 hown' hgrow _)
    go_roundw
    case rel=>exact⟨k+1,v',ds++ [(k,a)],rfl,by go_num,by omega,Aa FIN1 (fun b' r _=>by simp[hhi]),by simp;omega,by simpa [Jv,Zae] using hown',hB.trans (Kn hown hB.size hgrow)⟩
    case measure=>simp[intOf];omega
   |true=>
    by_cases hlt2:k+1<l.length
    ·obtain⟨b2,off2,hbe,hblt2,hcell2⟩:=Aa HA (k+1) hlt2
     cases hbe
     have hcw2:wr.cell? ⟨b,off+(k+1),none⟩=some (.int .u16 (l.getD (k+1) 0:Nat)):=(hB.cell (p:=⟨b,off+(k+1),none⟩) hblt).trans hcell2
     have ha2:=Aa H16 (k+1) hlt2
     have HDR2:=Ac (Nx l (k+1) hlt2)
     generalize l.getD (k+1) 0=a2 at *
     have HLO:=Ac (Zbq a2)
     have hk2:(k:Int)+1<(l.length:Int):=by omega
     cases hlo:M.isLo a2 with
     |false=>
      go_wp2_with fail
      refine(Ps _ _).mono ?_
      rintro e w' ⟨rfl,rfl⟩
      rw[Aa HHI,hhi]
      go_wp2_with fail
      refine(Zbp _ _).mono ?_
      rintro e w' ⟨rfl,rfl⟩
      rw[Aa HLO,hlo]
      go_wp2_with (at_builtin;refine wpList_append_own _ rfl _ _ 189 rfl w.heap.size 193 i0 (.agg #[.int .i64 0, .int .i64 0]) 2 16 Tryz.underlying189 hi hz0 hz1 hz2 rfl (by decide) _ _ _ rfl (hown.alloc _) ⟨w'.heap.size,0,none⟩ 1 1 [.int .i64 (k:Int), .int .i64 (a:Int)] rfl rfl (Dx _ #[.int .i64 (k:Int), .int .i64 (a:Int)] 193) (by simp[Value.oneCell']) (by unfold maxLen;omega) (by omega) (by have:=hB.size;simp;omega) ?_;intro v' w1 hown' hgrow _)
      go_roundw
      case rel=>exact⟨k+1,v',ds++ [(k,a)],rfl,by go_num,by omega,Aa FIN1 (fun b' r e'=>by rw[Aa HDR2] at e';simp only[List.cons.injEq] at e';rw[←e'.1,hlo];simp),by simp;omega,by simpa [Jv,Zae] using hown',hB.trans (Kn hown hB.size hgrow)⟩
      case measure=>simp[intOf];omega
     |true=>
      have hb1:=(M.isHi_iff a).1 hhi
      have hb2:=(M.isLo_iff a2).1 hlo
      obtain⟨j,hj⟩: ∃j:Nat,65536+1024 * (a - 55296)+(a2 - 56320)=j:=⟨_,rfl⟩
      have hjb:j<=1114111:=by omega
      have hjz:65536+1024 * ((a:Int) - 55296)+(a2:Int) - 56320=(j:Int):=by omega
      have fin2:Ld 0 l=(ds++ [(k,j)])++Ld (k+1+1) (l.drop (k+1+1)):=by
       rw[Aa HRW,Aa HDR,Aa HDR2,Zb1 k a a2 _ (by simp[hhi,hlo]),hj];simp
      have FIN2:=Ac fin2;clear fin2
      have HJ:=Ac hj;clear hj
      go_wp2_with fail
      refine(Ps _ _).mono ?_
      rintro e w' ⟨rfl,rfl⟩
      rw[Aa HHI,hhi]
      go_wp2_with fail
      refine(Zbp _ _).mono ?_
      rintro e w' ⟨rfl,rfl⟩
      rw[Aa HLO,hlo]
      clear hhi hlo
      go_wp2_with fail
      have hwr:IntKind.i64.wrap ((k:Int)+1)=(k:Int)+1:=by rw[IntKind.wrap_i64];omega
      have hk0:(0:Int)<=(k:Int)+1:=by omega
      have e1:IntKind.i64.wrap (a:Int)=(a:Int):=by rw[IntKind.wrap_i64];omega
      have e2:IntKind.i64.wrap ((a:Int) - 55296)=(a:Int) - 55296:=by rw[IntKind.wrap_i64];omega
      have e3:IntKind.i64.wrap (1024 * ((a:Int) - 55296))=1024 * ((a:Int) - 55296):=by rw[IntKind.wrap_i64];omega
      have e4:IntKind.i64.wrap (65536+1024 * ((a:Int) - 55296))=65536+1024 * ((a:Int) - 55296):=by rw[IntKind.wrap_i64];omega
      have e5:IntKind.i64.wrap (a2:Int)=(a2:Int):=by rw[IntKind.wrap_i64];omega
      have e6:IntKind.i64.wrap (65536+1024 * ((a:Int) - 55296)+(a2:Int))=65536+1024 * ((a:Int) - 55296)+(a2:Int):=by rw[IntKind.wrap_i64];omega
      have e7:IntKind.i64.wrap (65536+1024 * ((a:Int) - 55296)+(a2:Int) - 56320)=(j:Int):=by rw[IntKind.wrap_i64];omega
      clear hjz
      go_region_held3 (fun X=>X.cell? ⟨b,off+k,none⟩=some (.int .u16 (a:Int))/\X.cell? ⟨b,off+(k+1),none⟩=some (.int .u16 (a2:Int))) (first|go_keep|(have hb':=Kn (tmp:= .cells #[.int .i64 (k:Int), .int .i64 (j:Int)] 193) hown hB.size ⟨hgrow.os,hgrow.tape,hgrow.output,hgrow.size,hgrow.block⟩;exact⟨(hb'.cell (p:=⟨b,off+k,none⟩) hblt).trans hcw,(hb'.cell (p:=⟨b,off+(k+1),none⟩) hblt).trans hcw2⟩))
       ((refine step_append_lies _ (by rfl) _ _ 189 (by rfl) w.heap.size 193 i0 (.agg #[.int .i64 0, .int .i64 0]) 2 16 Tryz.underlying189 hi hz0 hz1 hz2 rfl (by decide) _ _ _ (by rfl) (hown.alloc _) ⟨w'.heap.size,0,none⟩ 1 1 [.int .i64 (k:Int), .int .i64 (j:Int)] (by rfl) rfl (Dx _ #[.int .i64 (k:Int), .int .i64 (j:Int)] 193) (by simp[Value.oneCell']) (by omega) (by unfold maxLen;omega) (by omega) (by have:=hB.size;simp;omega) (w'.heap.size+1) (by simp) ?_;intro g cap w1 hown' hgrow hat hlt'))
      clear e1 e2 e3 e4 e5 e6 e7 hwr
      go_wp2
      go_roundw
      case rel=>exact⟨k+1+1,_,ds++ [(k,j)],rfl,by go_num,by omega,Aa FIN2,by simp;omega,by simpa [Jv,Zae] using hown',hB.trans (Kn (tmp:= .cells #[.int .i64 (k:Int), .int .i64 (j:Int)] 193) hown hB.size ⟨hgrow.os,hgrow.tape,hgrow.output,hgrow.size,hgrow.block⟩)⟩
      case measure=>simp[intOf];omega
    ·have hk2: ¬((k:Int)+1<(l.length:Int)):=by omega
     go_wp2_with fail
     refine(Ps _ _).mono ?_
     rintro e w' ⟨rfl,rfl⟩
     rw[Aa HHI,hhi]
     go_wp2_with (at_builtin;refine wpList_append_own _ rfl _ _ 189 rfl w.heap.size 193 i0 (.agg #[.int .i64 0, .int .i64 0]) 2 16 Tryz.underlying189 hi hz0 hz1 hz2 rfl (by decide) _ _ _ rfl (hown.alloc _) ⟨w'.heap.size,0,none⟩ 1 1 [.int .i64 (k:Int), .int .i64 (a:Int)] rfl rfl (Dx _ #[.int .i64 (k:Int), .int .i64 (a:Int)] 193) (by simp[Value.oneCell']) (by unfold maxLen;omega) (by omega) (by have:=hB.size;simp;omega) ?_;intro v' w1 hown' hgrow _)
     go_roundw
     case rel=>exact⟨k+1,v',ds++ [(k,a)],rfl,by go_num,by omega,Aa FIN1 (fun b' r e'=>by rw[List.drop_of_length_le (by omega)] at e';cases e'),by simp;omega,by simpa [Jv,Zae] using hown',hB.trans (Kn hown hB.size hgrow)⟩
     case measure=>simp[intOf];omega
  ·go_wp2
   go_ret
   refine⟨_,rfl, ?_,hB⟩
   rw[Aa HRW,List.drop_of_length_le (by omega)]
   simpa [Ld] using hown
theorem Zb0 (l:List Nat) (h16: ∀x∈l,x<65536): ∀c∈M.row l,c<=1114111:=(M.row_props l.length l (Nat.le_refl _) h16).1
theorem Zm (l:List (Nat×Nat)) (k:Nat) (h:k<l.length):(Jv l)[k * 2+1]? =some (Zae (l[k].2))/\(Jv l)[k * 2]? =some (Zae (l[k].1)):=by
 induction l generalizing k with
 |nil=>simp at h
 |cons p r ih=>
  cases k with
  |zero=>simp[Jv]
  |succ k=>
   have:=ih k (by simpa using h)
   have e1:(k+1) * 2+1=(k * 2+1)+2:=by omega
   have e2:(k+1) * 2=(k * 2)+2:=by omega
   rw[e1,e2]
   simp only[Jv,List.flatMap_cons,List.cons_append,List.nil_append,List.getElem?_cons_succ,List.getElem_cons_succ] at *
   exact this

theorem Zb2 (v:Value) (l:List Nat) (h16: ∀x∈l,x<65536) (hlen:l.length<=1099511627776) (w:World) (hR:ZbP w v l):
  Calls Tryz.prog 102 #[v] w fun e w'=> ∃s,e= .returned (.string s)/\Dg s=M.ofL l/\Below w.heap.size w w':=by
 have hrow:=row_any v l h16 hlen w hR
 have hs:=Zb0 l h16
 have hsnd:=rowP_snd l.length 0 l (Nat.le_refl _)
 have hll:(Ld 0 l).length<=l.length:=by
  have e1:=congrArg List.length hsnd
  rw[List.length_map] at e1
  have e2:(M.row l).length<=((M.row l).flatMap M.U).length:=by
   generalize M.row l=q
   induction q with
   |nil=>simp
   |cons c r ih=>
    have:1<=(M.U c).length:=by unfold M.U;split<;>simp
    simp only[List.flatMap_cons,List.length_append,List.length_cons];omega
  rw[(M.row_props l.length l (Nat.le_refl _) h16).2.1] at e2
  omega
 unfold M.ofL
 rw[←hsnd] at hs ⊢
 clear hsnd
 generalize Ld 0 l=rp at *
 have HROW:=Ac hrow;clear hrow
 have hs': ∀k (h:k<rp.length),(rp[k]).2<=1114111:=fun k h=>hs _ (List.mem_map_of_mem (List.getElem_mem h))
 have HS:=Ac hs';clear hs'
 go_enter Tryz.func102,Tryz.ntmps102
 go_wp2_with fail
 refine(Aa HROW).mono ?_
 rintro e w1 ⟨vp,rfl,hown,hb⟩
 obtain⟨A,cap,rfl,hA⟩: ∃A cap,vp= .slice A rp.length cap/\(∀i (h:i<rp.length),∃g,A=some ⟨g,0,none⟩/\g<w1.heap.size/\w1.cell? ⟨g,i * 2+1,none⟩=some (.int .i64 (rp[i].2:Nat))):=by
  rcases hown.2 with ⟨rfl,h0⟩|⟨g,cap,cur,rfl,hBg,hgb,hnc,hcm,hcs,htk⟩
  ·exact⟨none,0,by rw[h0],fun i hi=>by omega⟩
  ·refine⟨_,_,rfl,fun i hi=>⟨g,rfl,(Array.getElem?_eq_some_iff.1 hgb).1, ?_⟩⟩
   rw[hown.cellAt (i * 2+1) (by omega)]
   exact(Zm rp i hi).1
 have HA:=Ac hA;clear hA
 go_wp2
 go_loopw [3,5] (fun b i wr=> ∃(k n:Nat) (vb:Value),b=vb/\i= .int .i64 (k:Nat)/\k<=rp.length/\n<=4 * k/\wr.ownsRow w1.heap.size 5 1 vb n (((rp.take k).map (·.2)).flatMap M.E|>.map u8v)/\Below w1.heap.size w1 wr) (fun _ i _=>rp.length - (intOf i).toNat)
 case atStart=>exact⟨0,0,_,rfl,rfl,by omega,by omega,World.ownsRow_nil _ _ _ _,Below.refl _ _⟩
 case round=>
  obtain⟨k,n,vb,rfl,rfl,hk,hn,hownb,hB⟩:=hrel
  by_cases hlt:k<rp.length
  ·obtain⟨g,rfl,hglt,hcell⟩:=Aa HA k hlt
   have hcw:wr.cell? ⟨g,k * 2+1,none⟩=some (.int .i64 (rp[k].2:Nat)):=(hB.cell (p:=⟨g,k * 2+1,none⟩) hglt).trans hcell
   have hc:=Aa HS k hlt
   have htk:rp.take (k+1)=rp.take k++ [rp[k]]:=List.take_succ_eq_append_getElem hlt
   have HTK:=Ac htk;clear htk
   have henc:=put_any w1.heap.size n u3 _ rp[k].2 hc wr hownb (by omega) hB.size
   have HENC:=Ac henc;clear henc
   have hE4:=M.E_len rp[k].2
   generalize hcc:rp[k].2=c at *
   have HCC:=Ac hcc;clear hcc
   have hk1:(k:Int)<(rp.length:Int):=by omega
   go_wp2_with fail
   refine(Aa HENC).mono ?_
   rintro e w2 ⟨vb2,rfl,hown2,hb2⟩
   go_wp2
   go_roundw
   case rel=>exact⟨k+1,n+(M.E c).length,vb2,rfl,by go_num,by omega,by omega,by rw[Aa HTK,List.map_append,List.flatMap_append,List.map_append];simpa [Aa HCC] using hown2,hB.trans hb2⟩
   case measure=>simp[intOf];omega
  ·obtain⟨s,hconv,hns⟩:=run_str wr w1.heap.size n u3 (((rp.take k).map (·.2)).flatMap M.E) hownb (fun x hx=>by
    rw[List.mem_flatMap] at hx;obtain⟨c,hc,hx⟩:=hx
    rw[List.mem_map] at hc
    obtain⟨p,hp,rfl⟩:=hc
    exact E_256 _ (hs _ (List.mem_map_of_mem (List.mem_of_mem_take hp))) x hx)
   have HNS:=Ac hns;clear hns
   go_wp2
   go_ret
   refine⟨s,rfl, ?_,hb.trans (hB.mono hb.size)⟩
   rw[Aa HNS,List.take_of_length_le (by omega)]

def Jd (n:Nat) (l:List Nat) (c:Nat):Int:=match M.tailN n l c with
 |some c=>(c:Int)
 |none=> -1
theorem Jq: ∀(n:Nat) (l:List Nat) (c d:Nat),M.tailN n l c=some d->d<64^n * (c+1)
 |0,_,c,d,h=>by simp[M.tailN] at h;omega
 |n+1,l,c,d,h=>by
  unfold M.tailN at h
  split at h
  ·simp at h
  ·split at h
   ·simp at h
   ·rename_i b t hb
    have:=Jq n t (64 * c+(b - 128)) d h
    have h2:64^n * (64 * c+(b - 128)+1)<=64^n * (64 * (c+1)):=Nat.mul_le_mul_left _ (by omega)
    rw[Nat.pow_succ]
    have h3:64^n * 64 * (c+1)=64^n * (64 * (c+1)):=by rw[Nat.mul_assoc]
    omega
theorem tail_any (s:ByteArray) (p n:Nat) (hn:n<=3) (hp:p<=s.size) (hsz:s.size<=1099511627776) (w:World):
  Calls Tryz.prog 114 #[.string s, .int .i64 (p:Nat), .int .i64 (n:Nat)] w fun e w'=>e= .returned (.int .i64 (Jd n ((Dg s).drop p) 0))/\w'=w:=by
 go_enter Tryz.func114,Tryz.ntmps114
 go_wp2
 go_loop [7,8] (fun c i=> ∃(k d:Nat),i= .int .i64 (k:Nat)/\c= .int .i64 (d:Nat)/\k<=n/\p+k<=s.size/\d<64^k/\M.tailN n ((Dg s).drop p) 0=M.tailN (n - k) ((Dg s).drop (p+k)) d) (fun _ i=>n - (intOf i).toNat)
 case atStart=>exact⟨0,0,rfl,rfl,by omega,by omega,by simp,rfl⟩
 case round=>
  obtain⟨k,d,rfl,rfl,hk,hpk,hd,ht⟩:=hrel
  have HT:=Ac ht;clear ht
  by_cases hlt:k<n
  ·have hd2:d<4096:=Nat.lt_of_lt_of_le hd (by
    have:k<=2:=by omega
    have h2:64^k<=64^2:=Nat.pow_le_pow_right (by omega) this
    simpa using h2)
   have hk1:(k:Int)<(n:Int):=by omega
   by_cases hin:p+k<s.size
   ·have hi1:(p:Int)+(k:Int)<(s.size:Int):=by omega
    obtain⟨x,hx⟩: ∃x,s[p+k]'hin=x:=⟨_,rfl⟩
    have hget:(Dg s).getD (p+k) 0=x.toNat:=by rw[Lm s (p+k) hin,hx]
    have hdr:(Dg s).drop (p+k)=x.toNat::(Dg s).drop (p+k+1):=by
     rw[Nx _ _ (by rw[Dz];exact hin),hget]
    have HDR:=Ac hdr;clear hdr hget
    have hxl:=x.toNat_lt
    obtain⟨m,hm⟩: ∃m,n - k=m+1:=⟨n - k - 1,by omega⟩
    have hm2:n - (k+1)=m:=by omega
    have hstep:M.tailN n ((Dg s).drop p) 0=if x.toNat<128∨191<x.toNat then none else M.tailN m ((Dg s).drop (p+k+1)) (64 * d+(x.toNat - 128)):=by
     rw[Aa HT,Aa HDR,hm];rfl
    have HST:=Ac hstep;clear hstep
    have HM:=Ac hm2;clear hm hm2
    by_cases c1:x.toNat<128
    ·have c1':(x.toNat:Int)<128:=by omega
     clear c1
     go_wp2
     go_ret
     refine⟨Rb ?_,rfl⟩
     unfold Jd;rw[Aa HST,if_pos (Or.inl (by omega))]
    ·by_cases c2:191<x.toNat
     ·have c1': ¬(x.toNat:Int)<128:=by omega
      have c2':(191:Int)<(x.toNat:Int):=by omega
      clear c1 c2
      go_wp2
      go_ret
      refine⟨Rb ?_,rfl⟩
      unfold Jd;rw[Aa HST,if_pos (Or.inr (by omega))]
     ·have c1': ¬(x.toNat:Int)<128:=by omega
      have c2': ¬(191:Int)<(x.toNat:Int):=by omega
      go_wp2
      go_round
      case rel=>
       refine⟨k+1,64 * d+(x.toNat - 128),by go_num,by congr 1;omega,by omega,by omega, ?_, ?_⟩
       ·rw[Nat.pow_succ];omega
       ·rw[Aa HM,Aa HST,if_neg (by omega)];rfl
      case measure=>simp[intOf];omega
   ·have hi1: ¬((p:Int)+(k:Int)<(s.size:Int)):=by omega
    obtain⟨m,hm⟩: ∃m,n - k=m+1:=⟨n - k - 1,by omega⟩
    have HM:=Ac hm;clear hm
    go_wp2
    go_ret
    refine⟨Rb ?_,rfl⟩
    unfold Jd;rw[Aa HT,Aa HM,List.drop_of_length_le (by rw[Dz];omega)];rfl
  ·have hk1: ¬(k:Int)<(n:Int):=by omega
   go_wp2
   go_ret
   refine⟨Rb ?_,rfl⟩
   unfold Jd;rw[Aa HT,show n - k=0 by omega];rfl
