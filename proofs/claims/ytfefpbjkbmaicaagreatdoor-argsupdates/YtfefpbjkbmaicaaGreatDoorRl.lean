import Derived.Test.YtfefpbjkbmaicaaGreatDoorRk
set_option linter.all false
namespace Go.Proofs.YtfefpbjkbmaicaaGreatDoor
set_option maxRecDepth 100000
set_option maxHeartbeats 0
section
open Go Go.Proofs Go.Maps Go.RowKit FM Tryz
attribute [local go_sem] Av Ap Dv Du De Au Ao Az Dd Gu Gt
def Zbh (p:PM) (s:ByteArray) (p':PM) (n:Nat):Prop:=(p.pF s=some n/\p'=p)∨(p.pF s=none/\n=p.l.length/\p'.b=p.b/\p'.l=p.l++ [⟨s,Bz,0⟩]/\p'.pF=putK p.pF s (some n)/\p'.pn=p.pn+1/\p'.tF=p.tF/\p'.tn=p.tn)
theorem rY {F:ByteArray->Option Nat} {s:ByteArray} {n:Nat} (h:F s=some n):Value.tuple #[.int .i64 (zv (F s)), .bool (F s).isSome]= .tuple #[.int .i64 (n:Nat), .bool true]:=by rw[h];rfl
theorem rN {F:ByteArray->Option Nat} {s:ByteArray} (h:F s=none):Value.tuple #[.int .i64 (zv (F s)), .bool (F s).isSome]= .tuple #[.int .i64 0, .bool false]:=by rw[h];rfl
theorem iY {F:Int->Option Nat} {s:Int} {n:Nat} (h:F s=some n):Value.tuple #[.int .i64 (zv (F s)), .bool (F s).isSome]= .tuple #[.int .i64 (n:Nat), .bool true]:=by rw[h];rfl
theorem iN {F:Int->Option Nat} {s:Int} (h:F s=none):Value.tuple #[.int .i64 (zv (F s)), .bool (F s).isSome]= .tuple #[.int .i64 0, .bool false]:=by rw[h];rfl
theorem Zb7 (p:PM) (s:ByteArray) (n:Nat) (w:World) (H:p.Is w) (hs:s.size<=1048576) (hF:p.pF s=some n):Calls prog 55 #[.pointer (some ⟨p.b,0,none⟩), .string s] w fun e w'=>e= .returned (.int .i64 (n:Nat))/\p.To p w w':=by
 have SS:=Ac H.sy
 have hs2:s.size<=maxLen:=Nat.le_trans hs (by decide)
 have r2:=rY hF
 have HH:=Ac H
 clear H
 go_enter func55,ntmps55
 go_wp2_with (first|go_skip|((with_reducible show wpList ..);first|(refine z1 83 isAgg83 0 (by rfl) rfl rfl SS rfl rfl ?_;simp only[nn])|(refine rd rfl (lookS rfl rfl rfl ((Aa SS).get 2 rfl) hs2 r2) ?_)))
 go_ret
 exact⟨rfl,PM.To.refl (Aa HH) (Below.refl _ _)⟩
theorem one_pa (a:PA): ∀u∈a.cs,u.oneCell'=true:=by simp[PA.cs,VV.cs,Value.oneCell']
theorem Zb8 (p:PM) (s:ByteArray) (w:World) (H:p.Is w) (hs:s.size<=1048576) (hF:p.pF s=none) (hl:p.l.length+1<=4000000) (hl2:p.l.length<=100000) (hn:p.pn<maxLen):Calls prog 55 #[.pointer (some ⟨p.b,0,none⟩), .string s] w fun e w'=> ∃(p':PM) (n:Nat),e= .returned (.int .i64 (n:Nat))/\Zbh p s p' n/\p.To p' w w':=by
 have SS:Hid (Sy w w p.blocks [Al p.b (pcs p),Ew 0 89 7 p.lv p.l.length (p.l.flatMap PA.cs),Gd KS p.pb p.pn p.pF,Gd KI p.tb p.tn p.tF]):=Ac H.sy
 have hs2:s.size<=maxLen:=Nat.le_trans hs (by decide)
 have r2:=rN hF
 clear H
 go_enter func55,ntmps55
 go_wp2_with (first|go_skip|((with_reducible show wpList ..);first|(refine z1 83 isAgg83 0 (by rfl) rfl rfl SS rfl rfl ?_;simp only[nn])|(refine rd rfl (lookS rfl rfl rfl ((Aa SS).get 2 rfl) hs2 r2) ?_)))
 refine(Lt s _ hs).mono ?_
 rintro _ Y1 ⟨rfl,hb1⟩
 replace SS:=Ac ((Aa SS).on hb1)
 clear hb1
 go_wp2_with (first|go_skip|((with_reducible show wpList ..);first|(refine z1 82 isAgg82 0 (by rfl) rfl rfl SS rfl rfl ?_;simp only[nn])|(refine rd rfl (ex_bPA rfl rfl) ?_)|((refine bsS (t:=82) (e:=89) (size:=7) (bytes:=72) (cs:=(PA.cs ⟨s,Bz,0⟩)) (by rfl) rfl rfl underlying82 infQ (by decide) rfl rfl (by decide) (Aa SS) ?_);intro X3 B3 hB3 S3 hb3;clear hB3 hb3;replace SS:=Ac S3;clear S3;simp only[nn])|((refine apS (t:=82) (e:=89) (size:=7) (bytes:=72) 1 4 rfl rfl rfl rfl underlying82 infQ rfl (by decide) (Aa SS) rfl rfl rfl (one_pa _) hl (by decide) (Nat.zero_le _) ?_);intro A4 c4 X4 S4;replace SS:=Ac S4;clear S4;simp only[nn])|(refine zS (hp:=by simp[pcs]) ([.slice A4 (p.l.length+1) c4]) 0 82 (by rfl) rfl rfl rfl rfl (by simp[Value.oneCell']) szQ SS rfl ?_;clear SS;intro X5 SS;simp only[nn])))
 have hS:Sy w _ p.blocks [Al p.b ([.slice A4 (p.l.length+1) c4, .map (some p.pb), .map (some p.tb)]),Ew 0 89 7 (.slice A4 (p.l.length+1) c4) (p.l.length+1) (p.l.flatMap PA.cs++(PA.cs ⟨s,Bz,0⟩)),Gd KS p.pb p.pn p.pF,Gd KI p.tb p.tn p.tF,Al B3 (PA.cs ⟨s,Bz,0⟩)]:=(Aa SS).drew
 clear SS
 refine wp_region_held_drew (P:=prog) (S:=fun X=>Holds X p.b ([.slice A4 (p.l.length+1) c4, .map (some p.pb), .map (some p.tb)])) (by kernel_rfl) (hS.hold 0 rfl) (fun hS0=> ?_)
 refine gp 0 (some 31) (.pointer (some ⟨p.b,0,none⟩)) rfl rfl (hS.hold 0 rfl) ?_
 refine gp 1 (some 32) (.pointer (some ⟨p.b,0,none⟩)) rfl rfl (hS.hold 0 rfl) ?_
 refine gp 2 (some 33) (.pointer (some ⟨p.b,1,none⟩)) rfl rfl (hS.hold 0 rfl) ?_
 refine gq 3 (some 34) (.map (some p.pb)) rfl rfl (fun X hX=>Aj 83 isAgg83 rfl rfl hX rfl) (hS.hold 0 rfl) ?_
 refine gp 4 (some 35) (.string s) rfl rfl (hS.hold 0 rfl) ?_
 refine gp 5 (some 36) (.pointer (some ⟨p.b,0,none⟩)) rfl rfl (hS.hold 0 rfl) ?_
 refine gp 6 (some 37) (.pointer (some ⟨p.b,0,none⟩)) rfl rfl (hS.hold 0 rfl) ?_
 refine gp 7 (some 38) (.pointer (some ⟨p.b,0,none⟩)) rfl rfl (hS.hold 0 rfl) ?_
 refine gq 8 (some 39) (.slice A4 (p.l.length+1) c4) rfl rfl (fun X hX=>Aj 82 isAgg82 rfl rfl hX rfl) (hS.hold 0 rfl) ?_
 refine gq 9 (some 40) (.int .i64 ((p.l.length+1:Nat):Int)) rfl rfl (fun X hX=>Dj 82 89 underlying82 rfl rfl) (hS.hold 0 rfl) ?_
 refine gq 10 (some 41) (.int .i64 (p.l.length:Nat)) rfl rfl (fun X hX=>ex_sub1 rfl rfl rfl hl2) (hS.hold 0 rfl) ?_
 obtain⟨X8,hrun8,hM8,ht8⟩:=MapK.store KS_ok (show MapK KS _ p.pb p.pn p.pF from hS.get 2 rfl) (s:=s) hs2 hn p.l.length
 have hq9:=hS.set 2 rfl (Ns KS _ _ _) hM8 (Qa ht8) (fun b hb=> .inl hb)
 refine gr (rs:= [11]) (Nb 11 none rfl rfl (by kernel_rfl) (ex_upS rfl rfl rfl rfl hrun8) (hq9.hold 0 rfl) ?_ gn)
 simp only[nn]
 refine wpAnyH_done (by kernel_rfl) ?_ _
 try simp only[nn]
 have SS:=Ac hq9
 clear hq9 hM8 ht8 hrun8
 go_wp2_with (first|go_skip|((with_reducible show wpList ..);first|(refine z1 83 isAgg83 0 (by rfl) rfl rfl SS rfl rfl ?_;simp only[nn])|(refine rd rfl (look1S rfl rfl rfl ((Aa SS).get 2 rfl) hs2 (Gs _ _ _)) ?_)))
 go_ret
 exact⟨⟨p.b, .slice A4 (p.l.length+1) c4,p.l++ [⟨s,Bz,0⟩],p.pb,p.pn+1,putK p.pF s (some p.l.length),p.tb,p.tn,p.tF⟩,p.l.length,rfl, .inr ⟨hF,rfl,rfl,rfl,rfl,rfl,rfl,rfl⟩,PM.To.end (M:= [Al B3 (PA.cs ⟨s,Bz,0⟩)]) (Aa SS) (by simp[PM.things,pcs])⟩
theorem Zb9 (p:PM) (s:ByteArray) (w:World) (H:p.Is w) (hs:s.size<=1048576) (hl:p.l.length+1<=4000000) (hl2:p.l.length<=100000) (hn:p.pn<maxLen):Calls prog 55 #[.pointer (some ⟨p.b,0,none⟩), .string s] w fun e w'=> ∃(p':PM) (n:Nat),e= .returned (.int .i64 (n:Nat))/\Zbh p s p' n/\p.To p' w w':=by
 cases hF:p.pF s with
 |none=>exact Zb8 p s w H hs hF hl hl2 hn
 |some n=>exact(Zb7 p s n w H hs hF).mono (fun e w' h=>⟨p,n,h.1, .inl ⟨hF,rfl⟩,h.2⟩)
