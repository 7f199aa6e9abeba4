import Derived.Test.YtfefpbjkbmaicaaGreatDoorRu
set_option linter.all false
namespace Go.Proofs.YtfefpbjkbmaicaaGreatDoor
set_option maxRecDepth 100000
set_option maxHeartbeats 0
section
open Go Go.Proofs Go.Maps Go.RowKit FM Tryz
attribute [local go_sem] Av Ap Dv Du De Au Ao Az Dd Gu Gt
theorem Zce (h:HP) (gv:Value) (q:OB):(h.more gv q).l[h.l.length]? =some q:=by
 unfold HP.more
 simp
theorem Sy.takeP {w X:World} {E:List Nat} {h:HP} {p:PM} {a b:Ob} (S:Sy w X E [hpO h,a,b,pmO p]) (h0:h.e.bs= []) (h6:6<=w.heap.size) (hE: ∀x∈p.blocks,w.heap.size<=x):Sy w X E [hpO (h.pm p),a,b]:=by
 have H:h.Is X:=S.get 0 rfl
 have P:p.Is X:=S.get 3 rfl
 have hd: ∀x∈(pmO p).bs,x ∉ h.blocks:=fun x hx hx2=>ZaC S.dis (i:=0) (j:=3) (a:=hpO h) (b:=pmO p) rfl rfl (by decide) x hx2 hx
 have H2:(h.pm p).Is X:=H.take (e':=pmO p) (Mc p) P h0 hd (fun x hx=>Nat.le_trans h6 (hE x hx))
 have hp: [hpO h,a,b,pmO p].Perm [a,b,hpO h,pmO p]:=(List.perm_append_comm (l₁:= [hpO h]) (l₂:= [a,b])).append (List.Perm.refl [pmO p])
 have S1:Sy w X E ([a,b]++hpO h::pmO p:: []):=S.perm hp
 have S2:=S1.join (c:=hpO (h.pm p)) (Yf _) H2 (fun x hx=>HP.take_blocks (h:=h) (e':=pmO p) (Mc p) x hx)
 exact S2.perm (List.perm_append_comm (l₁:= [a,b]) (l₂:= [hpO (h.pm p)]))
theorem text_ok {ns:List ByteArray} (h:Bw ns=0): ∀s∈ns,s.size<=1048576:=by
 unfold Bw at h
 split at h
 ·rename_i h1
  intro s hs
  exact Om (List.all_eq_true.1 h1 s hs)
 ·cases h
theorem Yx {n:Nat} (h:Ai n=0):n<=1024:=by
 unfold Ai at h
 split at h
 ·assumption
 ·cases h
theorem room_or {h:HP} (hr:Jk h=0):orE [Aq h.l.length Ag,Jr Ag,Jk h]=0:=by
 rw[Vp,hr]
 rfl
theorem pm_at {h:HP} {gv:Value} {q:OB} {p:PM}:((h.more gv q).pm p).l[h.l.length]? =some q:=Zce h gv q
theorem ex_bA {o:Oper} {a:Act} {w:World} (ho:o.op= .build 74 #[]):(execOp a.eval o).run prog w= .ok (.value (.agg #[])) w:=by
 have e:(Instr.build 74 #[]).run prog w= .ok (.agg #[]) w:=by kernel_rfl
 unfold execOp
 simp only[ho]
 simp[e]
theorem ex_bU {o:Oper} {a:Act} {w:World} (ho:o.op= .build 72 #[]):(execOp a.eval o).run prog w= .ok (.value (.agg #[])) w:=by
 have e:(Instr.build 72 #[]).run prog w= .ok (.agg #[]) w:=by kernel_rfl
 unfold execOp
 simp only[ho]
 simp[e]
theorem add_map (h:HP) (p:PM) (hl:h.l.length<=65536) (hr:Jk h=0) (X:World) (H:h.Is X) (hT:Tabs X):Calls prog 28 #[.pointer (some ⟨h.b,0,none⟩), .int .i64 4,Ag.agg, .iface 74 (.agg #[]), .iface 75 (.pointer (some ⟨p.b,0,none⟩))] X fun e X'=>(∃(gv:Value) (q:OB),e= .returned (.tuple #[.int .i64 ((h.l.length:Int)+1), .nilIface])/\q.c=4/\q.p=Ag/\q.x=true/\q.m=true/\q.ow=some (75, .pointer (some ⟨p.b,0,none⟩))/\pr q.T= []/\q.T.last=0/\h.To (h.more gv q) X X'):=by
 refine(add_h h Ag 4 true (some (75, .pointer (some ⟨p.b,0,none⟩))) X H hT hl).mono (fun e X' hh=> ?_)
 rcases hh with ⟨_,h1,_⟩|⟨_,h2⟩
 ·exact absurd (room_or hr) h1
 ·exact h2
theorem Rw (h:HP) (B NB:Option Addr) (c nc:Nat) (vs:List VV) (ns:List ByteArray) (w:World) (H:h.Is w) (hT:Tabs w) (HRV: ∀{X:World},Fr w X h.blocks->ReadsV X B vs) (HRN: ∀{X:World},Fr w X h.blocks->Lh X NB ns) (hz1:vs.length<=9223372036854775806) (hz2:ns.length<=9223372036854775806) (hl:h.l.length<=65535) (hr:Jk h=0) (h0:h.e.bs= []) (hX64: ∀(i:Nat) (v:VV),vs[i]? =some v->v.x<2^64):Calls prog 6 #[.pointer (some ⟨h.b,0,none⟩),Ag.agg, .slice B vs.length c, .slice NB ns.length nc,Ag.agg] w fun e w'=>(orE [Aq h.l.length Ag,0,Ai vs.length,Ai ns.length,Af vs,Af [Ag],Bw ns,Ay h.l.length vs,Ay h.l.length [Ag]]≠0/\e= .returned (.tuple #[.int .i64 0,La (orE [Aq h.l.length Ag,0,Ai vs.length,Ai ns.length,Af vs,Af [Ag],Bw ns,Ay h.l.length vs,Ay h.l.length [Ag]])])/\h.To h w w')∨(orE [Aq h.l.length Ag,0,Ai vs.length,Ai ns.length,Af vs,Af [Ag],Bw ns,Ay h.l.length vs,Ay h.l.length [Ag]]=0/\ ∃(gv:Value) (q:OB) (p:PM) (T':TT),e= .returned (.tuple #[.int .i64 ((h.l.length:Int)+1), .nilIface])/\q.c=4/\q.p=Ag/\q.x=true/\q.m=true/\q.ow=some (75, .pointer (some ⟨p.b,0,none⟩))/\NewPM vs ns p/\TE T' vs (vs.length+1+1)/\h.To (((h.more gv q).pm p).tab h.l.length q T') w w'):=by
 have SS:=Ac H.start
 rw[Dk]
 go_enter func6,ntmps6
 go_wp2_with (first|go_skip|((with_reducible show wpList ..);first|(refine zB 26 (Ag.cs) (by rfl) rfl rfl rfl (show Hid (Sy _ _ _ [_]) from SS) ?_;clear SS;intro Xa Ba SS;simp only[nn])|(refine zB 26 (Ag.cs) (by rfl) rfl rfl rfl (show Hid (Sy _ _ _ [_,_]) from SS) ?_;clear SS;intro Xb Bb SS;simp only[nn])))
 have hS1:Sy w _ h.blocks [hpO h,Al Ba Ag.cs,Al Bb Ag.cs]:=(Aa SS).drew
 clear SS
 refine Je (fun a a' X=> ∃(v27 v36 v38:Value),a'=((((((((((((((((((((((((((a.put (some 15) (.pointer (some ⟨h.b,0,none⟩))).put (some 16) (.agg (Ag.cs).toArray)).put (some 17) (.int .i64 (Aq h.l.length Ag))).put (some 18) (.agg (Ag.cs).toArray)).put (some 19) (.int .i64 (0))).put (some 20) (.slice B vs.length c)).put (some 21) (.int .i64 (Ai vs.length))).put (some 22) (.slice NB ns.length nc)).put (some 23) (.int .i64 (Ai ns.length))).put (some 24) (.slice B vs.length c)).put (some 25) (.int .i64 (Af vs))).put (some 26) (.agg (Ag.cs).toArray)).put (some 27) v27).put (some 28) (.int .i64 (Af [Ag]))).put (some 29) (.slice NB ns.length nc)).put (some 30) (.int .i64 (Bw ns))).put (some 31) (.pointer (some ⟨h.b,0,none⟩))).put (some 32) (.slice B vs.length c)).put (some 33) (.int .i64 (Ay h.l.length vs))).put (some 34) (.pointer (some ⟨h.b,0,none⟩))).put (some 35) (.agg (Ag.cs).toArray)).put (some 36) v36).put (some 37) (.int .i64 (Ay h.l.length [Ag]))).put (some 38) v38).put (some 39) (.int .i64 (orE [Aq h.l.length Ag,0,Ai vs.length,Ai ns.length,Af vs,Af [Ag],Bw ns,Ay h.l.length vs,Ay h.l.length [Ag]]))).put (some 12) (.int .i64 (orE [Aq h.l.length Ag,0,Ai vs.length,Ai ns.length,Af vs,Af [Ag],Bw ns,Ay h.l.length vs,Ay h.l.length [Ag]])))/\Sy w X h.blocks [hpO h,Al Ba Ag.cs,Al Bb Ag.cs]) ?_ ?_
 ·have cu: ∀{X:World} {M:List Ob},Sy w X h.blocks ([hpO h,Al Ba Ag.cs,Al Bb Ag.cs]++M)->Sy w X h.blocks [hpO h,Al Ba Ag.cs,Al Bb Ag.cs]:=fun h=>Sy.left h
  refine wp_region_held_drew (P:=prog) (S:=fun X=>Sy w X h.blocks _) (by kernel_rfl) (hS1) (fun hS0=> ?_)
  refine gp 0 (some 15) (.pointer (some ⟨h.b,0,none⟩)) rfl rfl (hS1) ?_
  refine gq 1 (some 16) (.agg (Ag.cs).toArray) rfl rfl (fun X hX=>Ax (vs:=Ag.cs) 26 5 rwV szV rfl rfl (hX.hold 1 rfl) rfl rfl) (hS1) ?_
  refine gq 3 (some 18) (.agg (Ag.cs).toArray) rfl rfl (fun X hX=>Ax (vs:=Ag.cs) 26 5 rwV szV rfl rfl (hX.hold 1 rfl) rfl rfl) (hS1) ?_
  refine gp 5 (some 20) (.slice B vs.length c) rfl rfl (hS1) ?_
  refine gp 7 (some 22) (.slice NB ns.length nc) rfl rfl (hS1) ?_
  refine gp 9 (some 24) (.slice B vs.length c) rfl rfl (hS1) ?_
  refine gq 11 (some 26) (.agg (Ag.cs).toArray) rfl rfl (fun X hX=>Ax (vs:=Ag.cs) 26 5 rwV szV rfl rfl (hX.hold 2 rfl) rfl rfl) (hS1) ?_
  refine gp 14 (some 29) (.slice NB ns.length nc) rfl rfl (hS1) ?_
  refine gp 16 (some 31) (.pointer (some ⟨h.b,0,none⟩)) rfl rfl (hS1) ?_
  refine gp 17 (some 32) (.slice B vs.length c) rfl rfl (hS1) ?_
  refine gp 19 (some 34) (.pointer (some ⟨h.b,0,none⟩)) rfl rfl (hS1) ?_
  refine gq 20 (some 35) (.agg (Ag.cs).toArray) rfl rfl (fun X hX=>Ax (vs:=Ag.cs) 26 5 rwV szV rfl rfl (hX.hold 2 rfl) rfl rfl) (hS1) ?_
  refine gr (rs:= [2,12,21]) (gcB 2 (some 17) rfl rfl hS1 (Jy h Ag _ (hS1.hp 0 rfl) (hT.fr hS1.fr H.low).1) id ?_ (Ar 12 (some 27) rfl rfl (by kernel_rfl) (Bi rfl rfl) (Nat.succ_pos _) hS1 (fun _ hZ=>cu hZ) ?_ (Ar 21 (some 36) rfl rfl (by kernel_rfl) (Bi rfl rfl) (Nat.succ_pos _) hS1 (fun _ hZ=>cu hZ) ?_ gn)))
  ·intro Yt1 hqt1
   simp only[nn]
   refine gr (rs:= [4,12,21]) (gcB 4 (some 19) rfl rfl hqt1 (Eo _) id ?_ (Ar 12 (some 27) rfl rfl (by kernel_rfl) (Bi rfl rfl) (Nat.succ_pos _) hqt1 (fun _ hZ=>cu hZ) ?_ (Ar 21 (some 36) rfl rfl (by kernel_rfl) (Bi rfl rfl) (Nat.succ_pos _) hqt1 (fun _ hZ=>cu hZ) ?_ gn)))
   ·intro Yt2 hqt2
    simp only[nn]
    refine gr (rs:= [6,12,21]) (gcW 6 (some 21) rfl rfl (hqt2) (Gk B vs.length c _) ?_ (Ar 12 (some 27) rfl rfl (by kernel_rfl) (Bi rfl rfl) (Nat.succ_pos _) hqt2 (fun _ hZ=>cu hZ) ?_ (Ar 21 (some 36) rfl rfl (by kernel_rfl) (Bi rfl rfl) (Nat.succ_pos _) hqt2 (fun _ hZ=>cu hZ) ?_ gn)))
    ·simp only[nn]
     refine gr (rs:= [8,12,21]) (gcW 8 (some 23) rfl rfl (hqt2) (Eg NB ns.length nc _) ?_ (Ar 12 (some 27) rfl rfl (by kernel_rfl) (Bi rfl rfl) (Nat.succ_pos _) hqt2 (fun _ hZ=>cu hZ) ?_ (Ar 21 (some 36) rfl rfl (by kernel_rfl) (Bi rfl rfl) (Nat.succ_pos _) hqt2 (fun _ hZ=>cu hZ) ?_ gn)))
     ·simp only[nn]
      refine gr (rs:= [10,12,21]) (gcB 10 (some 25) rfl rfl hqt2 (Aw B c vs _ (hT.fr hqt2.fr H.low).1 (HRV hqt2.fr) hz1) id ?_ (Ar 12 (some 27) rfl rfl (by kernel_rfl) (Bi rfl rfl) (Nat.succ_pos _) hqt2 (fun _ hZ=>cu hZ) ?_ (Ar 21 (some 36) rfl rfl (by kernel_rfl) (Bi rfl rfl) (Nat.succ_pos _) hqt2 (fun _ hZ=>cu hZ) ?_ gn)))
      ·intro Yt5 hqt5
       simp only[nn]
       refine gr (rs:= [12,21]) (Ar 12 (some 27) rfl rfl (by kernel_rfl) (Bi rfl rfl) (Nat.succ_pos _) hqt5 (fun _ hZ=>cu hZ) ?_ (Ar 21 (some 36) rfl rfl (by kernel_rfl) (Bi rfl rfl) (Nat.succ_pos _) hqt5 (fun _ hZ=>cu hZ) ?_ gn))
       ·intro Yt6 Bt6 hEt6 hqt6
        clear hEt6
        simp only[nn]
        refine gr (rs:= [13,21]) (gcB 13 (some 28) rfl rfl hqt6 (Aw (some ⟨Bt6,0,none⟩) 1 [Ag] _ (hT.fr hqt6.fr H.low).1 (Ah (hqt6.hold 3 rfl)) (by simp)) (fun x=>cu x) ?_ (Ar 21 (some 36) rfl rfl (by kernel_rfl) (Bi rfl rfl) (Nat.succ_pos _) hqt6 (fun _ hZ=>cu hZ) ?_ gn))
        ·intro Yt7 hqt7
         simp only[nn]
         refine gr (rs:= [15,21]) (gcB 15 (some 30) rfl rfl hqt7 (Db NB nc ns _ (hT.fr hqt7.fr H.low).1 (HRN hqt7.fr) hz2) (fun x=>cu x) ?_ (Ar 21 (some 36) rfl rfl (by kernel_rfl) (Bi rfl rfl) (Nat.succ_pos _) hqt7 (fun _ hZ=>cu hZ) ?_ gn))
         ·intro Yt8 hqt8
          simp only[nn]
          refine gr (rs:= [18,21]) (gcB 18 (some 33) rfl rfl hqt8 (Ak h B c vs _ (hqt8.hp 0 rfl) (hT.fr hqt8.fr H.low).1 (HRV hqt8.fr) hz1) (fun x=>cu x) ?_ (Ar 21 (some 36) rfl rfl (by kernel_rfl) (Bi rfl rfl) (Nat.succ_pos _) hqt8 (fun _ hZ=>cu hZ) ?_ gn))
          ·intro Yt9 hqt9
           simp only[nn]
           refine gr (rs:= [21]) (Ar 21 (some 36) rfl rfl (by kernel_rfl) (Bi rfl rfl) (Nat.succ_pos _) hqt9 (fun _ hZ=>cu hZ) ?_ gn)
           intro Yt10 Bt10 hEt10 hqt10
           clear hEt10
           simp only[nn]
           refine gr (rs:= [22]) (gcB 22 (some 37) rfl rfl hqt10 (Ak h (some ⟨Bt10,0,none⟩) 1 [Ag] _ (hqt10.hp 0 rfl) (hT.fr hqt10.fr H.low).1 (Ah (hqt10.hold 4 rfl)) (by simp)) (fun x=>cu x) ?_ gn)
           intro Yt11 hqt11
           simp only[nn]
           refine gr (rs:= [23]) (Ar 23 (some 38) rfl rfl (by kernel_rfl) (Da rfl rfl rfl rfl rfl rfl rfl rfl rfl rfl) (Nat.succ_pos _) hqt11 (fun _ hZ=>cu hZ) ?_ gn)
           intro Yt12 Bt12 hEt12 hqt12
           clear hEt12
           simp only[nn]
           refine gr (rs:= [24]) (gcW 24 (some 39) rfl rfl (cu hqt12) (Dc Bt12 9 [Aq h.l.length Ag,0,Ai vs.length,Ai ns.length,Af vs,Af [Ag],Bw ns,Ay h.l.length vs,Ay h.l.length [Ag]] _ (hqt12.hold 5 rfl) (by simp)) ?_ gn)
           refine gp 25 (some 12) (.int .i64 (orE [Aq h.l.length Ag,0,Ai vs.length,Ai ns.length,Af vs,Af [Ag],Bw ns,Ay h.l.length vs,Ay h.l.length [Ag]])) rfl rfl (cu hqt12) ?_
           refine wpAnyH_done (by kernel_rfl) ?_ _
           try simp only[nn]
           exact pN ⟨_,_,_,rfl,cu hqt12⟩
          ·intro Yt14 Bt14 hEt14 hqt14
           clear hEt14
           simp only[nn]
           refine gr (rs:= [18]) (gcB 18 (some 33) rfl rfl hqt14 (Ak h B c vs _ (hqt14.hp 0 rfl) (hT.fr hqt14.fr H.low).1 (HRV hqt14.fr) hz1) (fun x=>cu x) ?_ gn)
           intro Yt15 hqt15
           simp only[nn]
           refine gr (rs:= [22]) (gcB 22 (some 37) rfl rfl hqt15 (Ak h (some ⟨Bt14,0,none⟩) 1 [Ag] _ (hqt15.hp 0 rfl) (hT.fr hqt15.fr H.low).1 (Ah (hqt15.hold 4 rfl)) (by simp)) (fun x=>cu x) ?_ gn)
           intro Yt16 hqt16
           simp only[nn]
           refine gr (rs:= [23]) (Ar 23 (some 38) rfl rfl (by kernel_rfl) (Da rfl rfl rfl rfl rfl rfl rfl rfl rfl rfl) (Nat.succ_pos _) hqt16 (fun _ hZ=>cu hZ) ?_ gn)
           intro Yt17 Bt17 hEt17 hqt17
           clear hEt17
           simp only[nn]
           refine gr (rs:= [24]) (gcW 24 (some 39) rfl rfl (cu hqt17) (Dc Bt17 9 [Aq h.l.length Ag,0,Ai vs.length,Ai ns.length,Af vs,Af [Ag],Bw ns,Ay h.l.length vs,Ay h.l.length [Ag]] _ (hqt17.hold 5 rfl) (by simp)) ?_ gn)
           refine gp 25 (some 12) (.int .i64 (orE [Aq h.l.length Ag,0,Ai vs.length,Ai ns.length,Af vs,Af [Ag],Bw ns,Ay h.l.length vs,Ay h.l.length [Ag]])) rfl rfl (cu hqt17) ?_
           refine wpAnyH_done (by kernel_rfl) ?_ _
           try simp only[nn]
           exact pN ⟨_,_,_,rfl,cu hqt17⟩
         ·intro Yt19 Bt19 hEt19 hqt19
          clear hEt19
          simp only[nn]
          refine gr (rs:= [15]) (gcB 15 (some 30) rfl rfl hqt19 (Db NB nc ns _ (hT.fr hqt19.fr H.low).1 (HRN hqt19.fr) hz2) (fun x=>cu x) ?_ gn)
          intro Yt20 hqt20
          simp only[nn]
          refine gr (rs:= [18]) (gcB 18 (some 33) rfl rfl hqt20 (Ak h B c vs _ (hqt20.hp 0 rfl) (hT.fr hqt20.fr H.low).1 (HRV hqt20.fr) hz1) (fun x=>cu x) ?_ gn)
          intro Yt21 hqt21
          simp only[nn]
          refine gr (rs:= [22]) (gcB 22 (some 37) rfl rfl hqt21 (Ak h (some ⟨Bt19,0,none⟩) 1 [Ag] _ (hqt21.hp 0 rfl) (hT.fr hqt21.fr H.low).1 (Ah (hqt21.hold 4 rfl)) (by simp)) (fun x=>cu x) ?_ gn)
          intro Yt22 hqt22
          simp only[nn]
          refine gr (rs:= [23]) (Ar 23 (some 38) rfl rfl (by kernel_rfl) (Da rfl rfl rfl rfl rfl rfl rfl rfl rfl rfl) (Nat.succ_pos _) hqt22 (fun _ hZ=>cu hZ) ?_ gn)
          intro Yt23 Bt23 hEt23 hqt23
          clear hEt23
          simp only[nn]
          refine gr (rs:= [24]) (gcW 24 (some 39) rfl rfl (cu hqt23) (Dc Bt23 9 [Aq h.l.length Ag,0,Ai vs.length,Ai ns.length,Af vs,Af [Ag],Bw ns,Ay h.l.length vs,Ay h.l.length [Ag]] _ (hqt23.hold 5 rfl) (by simp)) ?_ gn)
          refine gp 25 (some 12) (.int .i64 (orE [Aq h.l.length Ag,0,Ai vs.length,Ai ns.length,Af vs,Af [Ag],Bw ns,Ay h.l.length vs,Ay h.l.length [Ag]])) rfl rfl (cu hqt23) ?_
          refine wpAnyH_done (by kernel_rfl) ?_ _
          try simp only[nn]
          exact pN ⟨_,_,_,rfl,cu hqt23⟩
        ·intro Yt25 Bt25 hEt25 hqt25
         clear hEt25
         simp only[nn]
         refine gr (rs:= [13]) (gcB 13 (some 28) rfl rfl hqt25 (Aw (some ⟨Bt6,0,none⟩) 1 [Ag] _ (hT.fr hqt25.fr H.low).1 (Ah (hqt25.hold 3 rfl)) (by simp)) (fun x=>cu x) ?_ gn)
         intro Yt26 hqt26
         simp only[nn]
         refine gr (rs:= [15]) (gcB 15 (some 30) rfl rfl hqt26 (Db NB nc ns _ (hT.fr hqt26.fr H.low).1 (HRN hqt26.fr) hz2) (fun x=>cu x) ?_ gn)
         intro Yt27 hqt27
         simp only[nn]
         refine gr (rs:= [18]) (gcB 18 (some 33) rfl rfl hqt27 (Ak h B c vs _ (hqt27.hp 0 rfl) (hT.fr hqt27.fr H.low).1 (HRV hqt27.fr) hz1) (fun x=>cu x) ?_ gn)
         intro Yt28 hqt28
         simp only[nn]
         refine gr (rs:= [22]) (gcB 22 (some 37) rfl rfl hqt28 (Ak h (some ⟨Bt25,0,none⟩) 1 [Ag] _ (hqt28.hp 0 rfl) (hT.fr hqt28.fr H.low).1 (Ah (hqt28.hold 4 rfl)) (by simp)) (fun x=>cu x) ?_ gn)
         intro Yt29 hqt29
         simp only[nn]
         refine gr (rs:= [23]) (Ar 23 (some 38) rfl rfl (by kernel_rfl) (Da rfl rfl rfl rfl rfl rfl rfl rfl rfl rfl) (Nat.succ_pos _) hqt29 (fun _ hZ=>cu hZ) ?_ gn)
         intro Yt30 Bt30 hEt30 hqt30
         clear hEt30
         simp only[nn]
         refine gr (rs:= [24]) (gcW 24 (some 39) rfl rfl (cu hqt30) (Dc Bt30 9 [Aq h.l.length Ag,0,Ai vs.length,Ai ns.length,Af vs,Af [Ag],Bw ns,Ay h.l.length vs,Ay h.l.length [Ag]] _ (hqt30.hold 5 rfl) (by simp)) ?_ gn)
         refine gp 25 (some 12) (.int .i64 (orE [Aq h.l.length Ag,0,Ai vs.length,Ai ns.length,Af vs,Af [Ag],Bw ns,Ay h.l.length vs,Ay h.l.length [Ag]])) rfl rfl (cu hqt30) ?_
         refine wpAnyH_done (by kernel_rfl) ?_ _
         try simp only[nn]
         exact pN ⟨_,_,_,rfl,cu hqt30⟩
       ·intro Yt32 Bt32 hEt32 hqt32
        clear hEt32
        simp only[nn]
        refine gr (rs:= [12]) (Ar 12 (some 27) rfl rfl (by kernel_rfl) (Bi rfl rfl) (Nat.succ_pos _) hqt32 (fun _ hZ=>cu hZ) ?_ gn)
        intro Yt33 Bt33 hEt33 hqt33
        clear hEt33
        simp only[nn]
        refine gr (rs:= [13]) (gcB 13 (some 28) rfl rfl hqt33 (Aw (some ⟨Bt33,0,none⟩) 1 [Ag] _ (hT.fr hqt33.fr H.low).1 (Ah (hqt33.hold 4 rfl)) (by simp)) (fun x=>cu x) ?_ gn)
        intro Yt34 hqt34
        simp only[nn]
        refine gr (rs:= [15]) (gcB 15 (some 30) rfl rfl hqt34 (Db NB nc ns _ (hT.fr hqt34.fr H.low).1 (HRN hqt34.fr) hz2) (fun x=>cu x) ?_ gn)
        intro Yt35 hqt35
        simp only[nn]
        refine gr (rs:= [18]) (gcB 18 (some 33) rfl rfl hqt35 (Ak h B c vs _ (hqt35.hp 0 rfl) (hT.fr hqt35.fr H.low).1 (HRV hqt35.fr) hz1) (fun x=>cu x) ?_ gn)
        intro Yt36 hqt36
        simp only[nn]
        refine gr (rs:= [22]) (gcB 22 (some 37) rfl rfl hqt36 (Ak h (some ⟨Bt32,0,none⟩) 1 [Ag] _ (hqt36.hp 0 rfl) (hT.fr hqt36.fr H.low).1 (Ah (hqt36.hold 3 rfl)) (by simp)) (fun x=>cu x) ?_ gn)
        intro Yt37 hqt37
        simp only[nn]
        refine gr (rs:= [23]) (Ar 23 (some 38) rfl rfl (by kernel_rfl) (Da rfl rfl rfl rfl rfl rfl rfl rfl rfl rfl) (Nat.succ_pos _) hqt37 (fun _ hZ=>cu hZ) ?_ gn)
        intro Yt38 Bt38 hEt38 hqt38
        clear hEt38
        simp only[nn]
        refine gr (rs:= [24]) (gcW 24 (some 39) rfl rfl (cu hqt38) (Dc Bt38 9 [Aq h.l.length Ag,0,Ai vs.length,Ai ns.length,Af vs,Af [Ag],Bw ns,Ay h.l.length vs,Ay h.l.length [Ag]] _ (hqt38.hold 5 rfl) (by simp)) ?_ gn)
        refine gp 25 (some 12) (.int .i64 (orE [Aq h.l.length Ag,0,Ai vs.length,Ai ns.length,Af vs,Af [Ag],Bw ns,Ay h.l.length vs,Ay h.l.length [Ag]])) rfl rfl (cu hqt38) ?_
        refine wpAnyH_done (by kernel_rfl) ?_ _
        try simp only[nn]
        exact pN ⟨_,_,_,rfl,cu hqt38⟩
      ·intro Yt40 Bt40 hEt40 hqt40
       clear hEt40
       simp only[nn]
       refine gr (rs:= [10,21]) (gcB 10 (some 25) rfl rfl hqt40 (Aw B c vs _ (hT.fr hqt40.fr H.low).1 (HRV hqt40.fr) hz1) (fun x=>cu x) ?_ (Ar 21 (some 36) rfl rfl (by kernel_rfl) (Bi rfl rfl) (Nat.succ_pos _) hqt40 (fun _ hZ=>cu hZ) ?_ gn))
       ·intro Yt41 hqt41
        simp only[nn]
        refine gr (rs:= [13,21]) (gcB 13 (some 28) rfl rfl hqt41 (Aw (some ⟨Bt40,0,none⟩) 1 [Ag] _ (hT.fr hqt41.fr H.low).1 (Ah (hqt41.hold 3 rfl)) (by simp)) (fun x=>cu x) ?_ (Ar 21 (some 36) rfl rfl (by kernel_rfl) (Bi rfl rfl) (Nat.succ_pos _) hqt41 (fun _ hZ=>cu hZ) ?_ gn))
        ·intro Yt42 hqt42
         simp only[nn]
         refine gr (rs:= [15,21]) (gcB 15 (some 30) rfl rfl hqt42 (Db NB nc ns _ (hT.fr hqt42.fr H.low).1 (HRN hqt42.fr) hz2) (fun x=>cu x) ?_ (Ar 21 (some 36) rfl rfl (by kernel_rfl) (Bi rfl rfl) (Nat.succ_pos _) hqt42 (fun _ hZ=>cu hZ) ?_ gn))
         ·intro Yt43 hqt43
          simp only[nn]
          refine gr (rs:= [18,21]) (gcB 18 (some 33) rfl rfl hqt43 (Ak h B c vs _ (hqt43.hp 0 rfl) (hT.fr hqt43.fr H.low).1 (HRV hqt43.fr) hz1) (fun x=>cu x) ?_ (Ar 21 (some 36) rfl rfl (by kernel_rfl) (Bi rfl rfl) (Nat.succ_pos _) hqt43 (fun _ hZ=>cu hZ) ?_ gn))
          ·intro Yt44 hqt44
           simp only[nn]
           refine gr (rs:= [21]) (Ar 21 (some 36) rfl rfl (by kernel_rfl) (Bi rfl rfl) (Nat.succ_pos _) hqt44 (fun _ hZ=>cu hZ) ?_ gn)
           intro Yt45 Bt45 hEt45 hqt45
           clear hEt45
           simp only[nn]
           refine gr (rs:= [22]) (gcB 22 (some 37) rfl rfl hqt45 (Ak h (some ⟨Bt45,0,none⟩) 1 [Ag] _ (hqt45.hp 0 rfl) (hT.fr hqt45.fr H.low).1 (Ah (hqt45.hold 4 rfl)) (by simp)) (fun x=>cu x) ?_ gn)
           intro Yt46 hqt46
           simp only[nn]
           refine gr (rs:= [23]) (Ar 23 (some 38) rfl rfl (by kernel_rfl) (Da rfl rfl rfl rfl rfl rfl rfl rfl rfl rfl) (Nat.succ_pos _) hqt46 (fun _ hZ=>cu hZ) ?_ gn)
           intro Yt47 Bt47 hEt47 hqt47
           clear hEt47
           simp only[nn]
           refine gr (rs:= [24]) (gcW 24 (some 39) rfl rfl (cu hqt47) (Dc Bt47 9 [Aq h.l.length Ag,0,Ai vs.length,Ai ns.length,Af vs,Af [Ag],Bw ns,Ay h.l.length vs,Ay h.l.length [Ag]] _ (hqt47.hold 5 rfl) (by simp)) ?_ gn)
           refine gp 25 (some 12) (.int .i64 (orE [Aq h.l.length Ag,0,Ai vs.length,Ai ns.length,Af vs,Af [Ag],Bw ns,Ay h.l.length vs,Ay h.l.length [Ag]])) rfl rfl (cu hqt47) ?_
           refine wpAnyH_done (by kernel_rfl) ?_ _
           try simp only[nn]
           exact pN ⟨_,_,_,rfl,cu hqt47⟩
          ·intro Yt49 Bt49 hEt49 hqt49
           clear hEt49
           simp only[nn]
           refine gr (rs:= [18]) (gcB 18 (some 33) rfl rfl hqt49 (Ak h B c vs _ (hqt49.hp 0 rfl) (hT.fr hqt49.fr H.low).1 (HRV hqt49.fr) hz1) (fun x=>cu x) ?_ gn)
           intro Yt50 hqt50
           simp only[nn]
           refine gr (rs:= [22]) (gcB 22 (some 37) rfl rfl hqt50 (Ak h (some ⟨Bt49,0,none⟩) 1 [Ag] _ (hqt50.hp 0 rfl) (hT.fr hqt50.fr H.low).1 (Ah (hqt50.hold 4 rfl)) (by simp)) (fun x=>cu x) ?_ gn)
           intro Yt51 hqt51
           simp only[nn]
           refine gr (rs:= [23]) (Ar 23 (some 38) rfl rfl (by kernel_rfl) (Da rfl rfl rfl rfl rfl rfl rfl rfl rfl rfl) (Nat.succ_pos _) hqt51 (fun _ hZ=>cu hZ) ?_ gn)
           intro Yt52 Bt52 hEt52 hqt52
           clear hEt52
           simp only[nn]
           refine gr (rs:= [24]) (gcW 24 (some 39) rfl rfl (cu hqt52) (Dc Bt52 9 [Aq h.l.length Ag,0,Ai vs.length,Ai ns.length,Af vs,Af [Ag],Bw ns,Ay h.l.length vs,Ay h.l.length [Ag]] _ (hqt52.hold 5 rfl) (by simp)) ?_ gn)
           refine gp 25 (some 12) (.int .i64 (orE [Aq h.l.length Ag,0,Ai vs.length,Ai ns.length,Af vs,Af [Ag],Bw ns,Ay h.l.length vs,Ay h.l.length [Ag]])) rfl rfl (cu hqt52) ?_
           refine wpAnyH_done (by kernel_rfl) ?_ _
           try simp only[nn]
           exact pN ⟨_,_,_,rfl,cu hqt52⟩
         ·intro Yt54 Bt54 hEt54 hqt54
          clear hEt54
          simp only[nn]
          refine gr (rs:= [15]) (gcB 15 (some 30) rfl rfl hqt54 (Db NB nc ns _ (hT.fr hqt54.fr H.low).1 (HRN hqt54.fr) hz2) (fun x=>cu x) ?_ gn)
          intro Yt55 hqt55
          simp only[nn]
          refine gr (rs:= [18]) (gcB 18 (some 33) rfl rfl hqt55 (Ak h B c vs _ (hqt55.hp 0 rfl) (hT.fr hqt55.fr H.low).1 (HRV hqt55.fr) hz1) (fun x=>cu x) ?_ gn)
          intro Yt56 hqt56
          simp only[nn]
          refine gr (rs:= [22]) (gcB 22 (some 37) rfl rfl hqt56 (Ak h (some ⟨Bt54,0,none⟩) 1 [Ag] _ (hqt56.hp 0 rfl) (hT.fr hqt56.fr H.low).1 (Ah (hqt56.hold 4 rfl)) (by simp)) (fun x=>cu x) ?_ gn)
          intro Yt57 hqt57
          simp only[nn]
          refine gr (rs:= [23]) (Ar 23 (some 38) rfl rfl (by kernel_rfl) (Da rfl rfl rfl rfl rfl rfl rfl rfl rfl rfl) (Nat.succ_pos _) hqt57 (fun _ hZ=>cu hZ) ?_ gn)
          intro Yt58 Bt58 hEt58 hqt58
          clear hEt58
          simp only[nn]
          refine gr (rs:= [24]) (gcW 24 (some 39) rfl rfl (cu hqt58) (Dc Bt58 9 [Aq h.l.length Ag,0,Ai vs.length,Ai ns.length,Af vs,Af [Ag],Bw ns,Ay h.l.length vs,Ay h.l.length [Ag]] _ (hqt58.hold 5 rfl) (by simp)) ?_ gn)
          refine gp 25 (some 12) (.int .i64 (orE [Aq h.l.length Ag,0,Ai vs.length,Ai ns.length,Af vs,Af [Ag],Bw ns,Ay h.l.length vs,Ay h.l.length [Ag]])) rfl rfl (cu hqt58) ?_
          refine wpAnyH_done (by kernel_rfl) ?_ _
          try simp only[nn]
          exact pN ⟨_,_,_,rfl,cu hqt58⟩
        ·intro Yt60 Bt60 hEt60 hqt60
         clear hEt60
         simp only[nn]
         refine gr (rs:= [13]) (gcB 13 (some 28) rfl rfl hqt60 (Aw (some ⟨Bt40,0,none⟩) 1 [Ag] _ (hT.fr hqt60.fr H.low).1 (Ah (hqt60.hold 3 rfl)) (by simp)) (fun x=>cu x) ?_ gn)
         intro Yt61 hqt61
         simp only[nn]
         refine gr (rs:= [15]) (gcB 15 (some 30) rfl rfl hqt61 (Db NB nc ns _ (hT.fr hqt61.fr H.low).1 (HRN hqt61.fr) hz2) (fun x=>cu x) ?_ gn)
         intro Yt62 hqt62
         simp only[nn]
         refine gr (rs:= [18]) (gcB 18 (some 33) rfl rfl hqt62 (Ak h B c vs _ (hqt62.hp 0 rfl) (hT.fr hqt62.fr H.low).1 (HRV hqt62.fr) hz1) (fun x=>cu x) ?_ gn)
         intro Yt63 hqt63
         simp only[nn]
         refine gr (rs:= [22]) (gcB 22 (some 37) rfl rfl hqt63 (Ak h (some ⟨Bt60,0,none⟩) 1 [Ag] _ (hqt63.hp 0 rfl) (hT.fr hqt63.fr H.low).1 (Ah (hqt63.hold 4 rfl)) (by simp)) (fun x=>cu x) ?_ gn)
         intro Yt64 hqt64
         simp only[nn]
         refine gr (rs:= [23]) (Ar 23 (some 38) rfl rfl (by kernel_rfl) (Da rfl rfl rfl rfl rfl rfl rfl rfl rfl rfl) (Nat.succ_pos _) hqt64 (fun _ hZ=>cu hZ) ?_ gn)
         intro Yt65 Bt65 hEt65 hqt65
         clear hEt65
         simp only[nn]
         refine gr (rs:= [24]) (gcW 24 (some 39) rfl rfl (cu hqt65) (Dc Bt65 9 [Aq h.l.length Ag,0,Ai vs.length,Ai ns.length,Af vs,Af [Ag],Bw ns,Ay h.l.length vs,Ay h.l.length [Ag]] _ (hqt65.hold 5 rfl) (by simp)) ?_ gn)
         refine gp 25 (some 12) (.int .i64 (orE [Aq h.l.length Ag,0,Ai vs.length,Ai ns.length,Af vs,Af [Ag],Bw ns,Ay h.l.length vs,Ay h.l.length [Ag]])) rfl rfl (cu hqt65) ?_
         refine wpAnyH_done (by kernel_rfl) ?_ _
         try simp only[nn]
         exact pN ⟨_,_,_,rfl,cu hqt65⟩
       ·intro Yt67 Bt67 hEt67 hqt67
        clear hEt67
        simp only[nn]
        refine gr (rs:= [10]) (gcB 10 (some 25) rfl rfl hqt67 (Aw B c vs _ (hT.fr hqt67.fr H.low).1 (HRV hqt67.fr) hz1) (fun x=>cu x) ?_ gn)
        intro Yt68 hqt68
        simp only[nn]
        refine gr (rs:= [13]) (gcB 13 (some 28) rfl rfl hqt68 (Aw (some ⟨Bt40,0,none⟩) 1 [Ag] _ (hT.fr hqt68.fr H.low).1 (Ah (hqt68.hold 3 rfl)) (by simp)) (fun x=>cu x) ?_ gn)
        intro Yt69 hqt69
        simp only[nn]
        refine gr (rs:= [15]) (gcB 15 (some 30) rfl rfl hqt69 (Db NB nc ns _ (hT.fr hqt69.fr H.low).1 (HRN hqt69.fr) hz2) (fun x=>cu x) ?_ gn)
        intro Yt70 hqt70
        simp only[nn]
        refine gr (rs:= [18]) (gcB 18 (some 33) rfl rfl hqt70 (Ak h B c vs _ (hqt70.hp 0 rfl) (hT.fr hqt70.fr H.low).1 (HRV hqt70.fr) hz1) (fun x=>cu x) ?_ gn)
        intro Yt71 hqt71
        simp only[nn]
        refine gr (rs:= [22]) (gcB 22 (some 37) rfl rfl hqt71 (Ak h (some ⟨Bt67,0,none⟩) 1 [Ag] _ (hqt71.hp 0 rfl) (hT.fr hqt71.fr H.low).1 (Ah (hqt71.hold 4 rfl)) (by simp)) (fun x=>cu x) ?_ gn)
        intro Yt72 hqt72
        simp only[nn]
        refine gr (rs:= [23]) (Ar 23 (some 38) rfl rfl (by kernel_rfl) (Da rfl rfl rfl rfl rfl rfl rfl rfl rfl rfl) (Nat.succ_pos _) hqt72 (fun _ hZ=>cu hZ) ?_ gn)
        intro Yt73 Bt73 hEt73 hqt73
        clear hEt73
        simp only[nn]
        refine gr (rs:= [24]) (gcW 24 (some 39) rfl rfl (cu hqt73) (Dc Bt73 9 [Aq h.l.length Ag,0,Ai vs.length,Ai ns.length,Af vs,Af [Ag],Bw ns,Ay h.l.length vs,Ay h.l.length [Ag]] _ (hqt73.hold 5 rfl) (by simp)) ?_ gn)
        refine gp 25 (some 12) (.int .i64 (orE [Aq h.l.length Ag,0,Ai vs.length,Ai ns.length,Af vs,Af [Ag],Bw ns,Ay h.l.length vs,Ay h.l.length [Ag]])) rfl rfl (cu hqt73) ?_
        refine wpAnyH_done (by kernel_rfl) ?_ _
        try simp only[nn]
        exact pN ⟨_,_,_,rfl,cu hqt73⟩
      ·intro Yt75 Bt75 hEt75 hqt75
       clear hEt75
       simp only[nn]
       refine gr (rs:= [10,12]) (gcB 10 (some 25) rfl rfl hqt75 (Aw B c vs _ (hT.fr hqt75.fr H.low).1 (HRV hqt75.fr) hz1) (fun x=>cu x) ?_ (Ar 12 (some 27) rfl rfl (by kernel_rfl) (Bi rfl rfl) (Nat.succ_pos _) hqt75 (fun _ hZ=>cu hZ) ?_ gn))
       ·intro Yt76 hqt76
        simp only[nn]
        refine gr (rs:= [12]) (Ar 12 (some 27) rfl rfl (by kernel_rfl) (Bi rfl rfl) (Nat.succ_pos _) hqt76 (fun _ hZ=>cu hZ) ?_ gn)
        intro Yt77 Bt77 hEt77 hqt77
        clear hEt77
        simp only[nn]
        refine gr (rs:= [13]) (gcB 13 (some 28) rfl rfl hqt77 (Aw (some ⟨Bt77,0,none⟩) 1 [Ag] _ (hT.fr hqt77.fr H.low).1 (Ah (hqt77.hold 4 rfl)) (by simp)) (fun x=>cu x) ?_ gn)
        intro Yt78 hqt78
        simp only[nn]
        refine gr (rs:= [15]) (gcB 15 (some 30) rfl rfl hqt78 (Db NB nc ns _ (hT.fr hqt78.fr H.low).1 (HRN hqt78.fr) hz2) (fun x=>cu x) ?_ gn)
        intro Yt79 hqt79
        simp only[nn]
        refine gr (rs:= [18]) (gcB 18 (some 33) rfl rfl hqt79 (Ak h B c vs _ (hqt79.hp 0 rfl) (hT.fr hqt79.fr H.low).1 (HRV hqt79.fr) hz1) (fun x=>cu x) ?_ gn)
        intro Yt80 hqt80
        simp only[nn]
        refine gr (rs:= [22]) (gcB 22 (some 37) rfl rfl hqt80 (Ak h (some ⟨Bt75,0,none⟩) 1 [Ag] _ (hqt80.hp 0 rfl) (hT.fr hqt80.fr H.low).1 (Ah (hqt80.hold 3 rfl)) (by simp)) (fun x=>cu x) ?_ gn)
        intro Yt81 hqt81
        simp only[nn]
        refine gr (rs:= [23]) (Ar 23 (some 38) rfl rfl (by kernel_rfl) (Da rfl rfl rfl rfl rfl rfl rfl rfl rfl rfl) (Nat.succ_pos _) hqt81 (fun _ hZ=>cu hZ) ?_ gn)
        intro Yt82 Bt82 hEt82 hqt82
        clear hEt82
        simp only[nn]
        refine gr (rs:= [24]) (gcW 24 (some 39) rfl rfl (cu hqt82) (Dc Bt82 9 [Aq h.l.length Ag,0,Ai vs.length,Ai ns.length,Af vs,Af [Ag],Bw ns,Ay h.l.length vs,Ay h.l.length [Ag]] _ (hqt82.hold 5 rfl) (by simp)) ?_ gn)
        refine gp 25 (some 12) (.int .i64 (orE [Aq h.l.length Ag,0,Ai vs.length,Ai ns.length,Af vs,Af [Ag],Bw ns,Ay h.l.length vs,Ay h.l.length [Ag]])) rfl rfl (cu hqt82) ?_
        refine wpAnyH_done (by kernel_rfl) ?_ _
        try simp only[nn]
        exact pN ⟨_,_,_,rfl,cu hqt82⟩
       ·intro Yt84 Bt84 hEt84 hqt84
        clear hEt84
        simp only[nn]
        refine gr (rs:= [10]) (gcB 10 (some 25) rfl rfl hqt84 (Aw B c vs _ (hT.fr hqt84.fr H.low).1 (HRV hqt84.fr) hz1) (fun x=>cu x) ?_ gn)
        intro Yt85 hqt85
        simp only[nn]
        refine gr (rs:= [13]) (gcB 13 (some 28) rfl rfl hqt85 (Aw (some ⟨Bt84,0,none⟩) 1 [Ag] _ (hT.fr hqt85.fr H.low).1 (Ah (hqt85.hold 4 rfl)) (by simp)) (fun x=>cu x) ?_ gn)
        intro Yt86 hqt86
        simp only[nn]
        refine gr (rs:= [15]) (gcB 15 (some 30) rfl rfl hqt86 (Db NB nc ns _ (hT.fr hqt86.fr H.low).1 (HRN hqt86.fr) hz2) (fun x=>cu x) ?_ gn)
        intro Yt87 hqt87
        simp only[nn]
        refine gr (rs:= [18]) (gcB 18 (some 33) rfl rfl hqt87 (Ak h B c vs _ (hqt87.hp 0 rfl) (hT.fr hqt87.fr H.low).1 (HRV hqt87.fr) hz1) (fun x=>cu x) ?_ gn)
        intro Yt88 hqt88
        simp only[nn]
        refine gr (rs:= [22]) (gcB 22 (some 37) rfl rfl hqt88 (Ak h (some ⟨Bt75,0,none⟩) 1 [Ag] _ (hqt88.hp 0 rfl) (hT.fr hqt88.fr H.low).1 (Ah (hqt88.hold 3 rfl)) (by simp)) (fun x=>cu x) ?_ gn)
        intro Yt89 hqt89
        simp only[nn]
        refine gr (rs:= [23]) (Ar 23 (some 38) rfl rfl (by kernel_rfl) (Da rfl rfl rfl rfl rfl rfl rfl rfl rfl rfl) (Nat.succ_pos _) hqt89 (fun _ hZ=>cu hZ) ?_ gn)
        intro Yt90 Bt90 hEt90 hqt90
        clear hEt90
        simp only[nn]
        refine gr (rs:= [24]) (gcW 24 (some 39) rfl rfl (cu hqt90) (Dc Bt90 9 [Aq h.l.length Ag,0,Ai vs.length,Ai ns.length,Af vs,Af [Ag],Bw ns,Ay h.l.length vs,Ay h.l.length [Ag]] _ (hqt90.hold 5 rfl) (by simp)) ?_ gn)
        refine gp 25 (some 12) (.int .i64 (orE [Aq h.l.length Ag,0,Ai vs.length,Ai ns.length,Af vs,Af [Ag],Bw ns,Ay h.l.length vs,Ay h.l.length [Ag]])) rfl rfl (cu hqt90) ?_
        refine wpAnyH_done (by kernel_rfl) ?_ _
        try simp only[nn]
        exact pN ⟨_,_,_,rfl,cu hqt90⟩
     ·intro Yt92 Bt92 hEt92 hqt92
      clear hEt92
      simp only[nn]
      refine gr (rs:= [8,21]) (gcW 8 (some 23) rfl rfl (cu hqt92) (Eg NB ns.length nc _) ?_ (Ar 21 (some 36) rfl rfl (by kernel_rfl) (Bi rfl rfl) (Nat.succ_pos _) hqt92 (fun _ hZ=>cu hZ) ?_ gn))
      ·simp only[nn]
       refine gr (rs:= [10,21]) (gcB 10 (some 25) rfl rfl hqt92 (Aw B c vs _ (hT.fr hqt92.fr H.low).1 (HRV hqt92.fr) hz1) (fun x=>cu x) ?_ (Ar 21 (some 36) rfl rfl (by kernel_rfl) (Bi rfl rfl) (Nat.succ_pos _) hqt92 (fun _ hZ=>cu hZ) ?_ gn))
       ·intro Yt94 hqt94
        simp only[nn]
        refine gr (rs:= [13,21]) (gcB 13 (some 28) rfl rfl hqt94 (Aw (some ⟨Bt92,0,none⟩) 1 [Ag] _ (hT.fr hqt94.fr H.low).1 (Ah (hqt94.hold 3 rfl)) (by simp)) (fun x=>cu x) ?_ (Ar 21 (some 36) rfl rfl (by kernel_rfl) (Bi rfl rfl) (Nat.succ_pos _) hqt94 (fun _ hZ=>cu hZ) ?_ gn))
        ·intro Yt95 hqt95
         simp only[nn]
         refine gr (rs:= [15,21]) (gcB 15 (some 30) rfl rfl hqt95 (Db NB nc ns _ (hT.fr hqt95.fr H.low).1 (HRN hqt95.fr) hz2) (fun x=>cu x) ?_ (Ar 21 (some 36) rfl rfl (by kernel_rfl) (Bi rfl rfl) (Nat.succ_pos _) hqt95 (fun _ hZ=>cu hZ) ?_ gn))
         ·intro Yt96 hqt96
          simp only[nn]
          refine gr (rs:= [18,21]) (gcB 18 (some 33) rfl rfl hqt96 (Ak h B c vs _ (hqt96.hp 0 rfl) (hT.fr hqt96.fr H.low).1 (HRV hqt96.fr) hz1) (fun x=>cu x) ?_ (Ar 21 (some 36) rfl rfl (by kernel_rfl) (Bi rfl rfl) (Nat.succ_pos _) hqt96 (fun _ hZ=>cu hZ) ?_ gn))
          ·intro Yt97 hqt97
           simp only[nn]
           refine gr (rs:= [21]) (Ar 21 (some 36) rfl rfl (by kernel_rfl) (Bi rfl rfl) (Nat.succ_pos _) hqt97 (fun _ hZ=>cu hZ) ?_ gn)
           intro Yt98 Bt98 hEt98 hqt98
           clear hEt98
           simp only[nn]
           refine gr (rs:= [22]) (gcB 22 (some 37) rfl rfl hqt98 (Ak h (some ⟨Bt98,0,none⟩) 1 [Ag] _ (hqt98.hp 0 rfl) (hT.fr hqt98.fr H.low).1 (Ah (hqt98.hold 4 rfl)) (by simp)) (fun x=>cu x) ?_ gn)
           intro Yt99 hqt99
           simp only[nn]
           refine gr (rs:= [23]) (Ar 23 (some 38) rfl rfl (by kernel_rfl) (Da rfl rfl rfl rfl rfl rfl rfl rfl rfl rfl) (Nat.succ_pos _) hqt99 (fun _ hZ=>cu hZ) ?_ gn)
           intro Yt100 Bt100 hEt100 hqt100
           clear hEt100
           simp only[nn]
           refine gr (rs:= [24]) (gcW 24 (some 39) rfl rfl (cu hqt100) (Dc Bt100 9 [Aq h.l.length Ag,0,Ai vs.length,Ai ns.length,Af vs,Af [Ag],Bw ns,Ay h.l.length vs,Ay h.l.length [Ag]] _ (hqt100.hold 5 rfl) (by simp)) ?_ gn)
           refine gp 25 (some 12) (.int .i64 (orE [Aq h.l.length Ag,0,Ai vs.length,Ai ns.length,Af vs,Af [Ag],Bw ns,Ay h.l.length vs,Ay h.l.length [Ag]])) rfl rfl (cu hqt100) ?_
           refine wpAnyH_done (by kernel_rfl) ?_ _
           try simp only[nn]
           exact pN ⟨_,_,_,rfl,cu hqt100⟩
          ·intro Yt102 Bt102 hEt102 hqt102
           clear hEt102
           simp only[nn]
           refine gr (rs:= [18]) (gcB 18 (some 33) rfl rfl hqt102 (Ak h B c vs _ (hqt102.hp 0 rfl) (hT.fr hqt102.fr H.low).1 (HRV hqt102.fr) hz1) (fun x=>cu x) ?_ gn)
           intro Yt103 hqt103
           simp only[nn]
           refine gr (rs:= [22]) (gcB 22 (some 37) rfl rfl hqt103 (Ak h (some ⟨Bt102,0,none⟩) 1 [Ag] _ (hqt103.hp 0 rfl) (hT.fr hqt103.fr H.low).1 (Ah (hqt103.hold 4 rfl)) (by simp)) (fun x=>cu x) ?_ gn)
           intro Yt104 hqt104
           simp only[nn]
           refine gr (rs:= [23]) (Ar 23 (some 38) rfl rfl (by kernel_rfl) (Da rfl rfl rfl rfl rfl rfl rfl rfl rfl rfl) (Nat.succ_pos _) hqt104 (fun _ hZ=>cu hZ) ?_ gn)
           intro Yt105 Bt105 hEt105 hqt105
           clear hEt105
           simp only[nn]
           refine gr (rs:= [24]) (gcW 24 (some 39) rfl rfl (cu hqt105) (Dc Bt105 9 [Aq h.l.length Ag,0,Ai vs.length,Ai ns.length,Af vs,Af [Ag],Bw ns,Ay h.l.length vs,Ay h.l.length [Ag]] _ (hqt105.hold 5 rfl) (by simp)) ?_ gn)
           refine gp 25 (some 12) (.int .i64 (orE [Aq h.l.length Ag,0,Ai vs.length,Ai ns.length,Af vs,Af [Ag],Bw ns,Ay h.l.length vs,Ay h.l.length [Ag]])) rfl rfl (cu hqt105) ?_
           refine wpAnyH_done (by kernel_rfl) ?_ _
           try simp only[nn]
           exact pN ⟨_,_,_,rfl,cu hqt105⟩
         ·intro Yt107 Bt107 hEt107 hqt107
          clear hEt107
          simp only[nn]
          refine gr (rs:= [15]) (gcB 15 (some 30) rfl rfl hqt107 (Db NB nc ns _ (hT.fr hqt107.fr H.low).1 (HRN hqt107.fr) hz2) (fun x=>cu x) ?_ gn)
          intro Yt108 hqt108
          simp only[nn]
          refine gr (rs:= [18]) (gcB 18 (some 33) rfl rfl hqt108 (Ak h B c vs _ (hqt108.hp 0 rfl) (hT.fr hqt108.fr H.low).1 (HRV hqt108.fr) hz1) (fun x=>cu x) ?_ gn)
          intro Yt109 hqt109
          simp only[nn]
          refine gr (rs:= [22]) (gcB 22 (some 37) rfl rfl hqt109 (Ak h (some ⟨Bt107,0,none⟩) 1 [Ag] _ (hqt109.hp 0 rfl) (hT.fr hqt109.fr H.low).1 (Ah (hqt109.hold 4 rfl)) (by simp)) (fun x=>cu x) ?_ gn)
          intro Yt110 hqt110
          simp only[nn]
          refine gr (rs:= [23]) (Ar 23 (some 38) rfl rfl (by kernel_rfl) (Da rfl rfl rfl rfl rfl rfl rfl rfl rfl rfl) (Nat.succ_pos _) hqt110 (fun _ hZ=>cu hZ) ?_ gn)
          intro Yt111 Bt111 hEt111 hqt111
          clear hEt111
          simp only[nn]
          refine gr (rs:= [24]) (gcW 24 (some 39) rfl rfl (cu hqt111) (Dc Bt111 9 [Aq h.l.length Ag,0,Ai vs.length,Ai ns.length,Af vs,Af [Ag],Bw ns,Ay h.l.length vs,Ay h.l.length [Ag]] _ (hqt111.hold 5 rfl) (by simp)) ?_ gn)
          refine gp 25 (some 12) (.int .i64 (orE [Aq h.l.length Ag,0,Ai vs.length,Ai ns.length,Af vs,Af [Ag],Bw ns,Ay h.l.length vs,Ay h.l.length [Ag]])) rfl rfl (cu hqt111) ?_
          refine wpAnyH_done (by kernel_rfl) ?_ _
          try simp only[nn]
          exact pN ⟨_,_,_,rfl,cu hqt111⟩
        ·intro Yt113 Bt113 hEt113 hqt113
         clear hEt113
         simp only[nn]
         refine gr (rs:= [13]) (gcB 13 (some 28) rfl rfl hqt113 (Aw (some ⟨Bt92,0,none⟩) 1 [Ag] _ (hT.fr hqt113.fr H.low).1 (Ah (hqt113.hold 3 rfl)) (by simp)) (fun x=>cu x) ?_ gn)
         intro Yt114 hqt114
         simp only[nn]
         refine gr (rs:= [15]) (gcB 15 (some 30) rfl rfl hqt114 (Db NB nc ns _ (hT.fr hqt114.fr H.low).1 (HRN hqt114.fr) hz2) (fun x=>cu x) ?_ gn)
         intro Yt115 hqt115
         simp only[nn]
         refine gr (rs:= [18]) (gcB 18 (some 33) rfl rfl hqt115 (Ak h B c vs _ (hqt115.hp 0 rfl) (hT.fr hqt115.fr H.low).1 (HRV hqt115.fr) hz1) (fun x=>cu x) ?_ gn)
         intro Yt116 hqt116
         simp only[nn]
         refine gr (rs:= [22]) (gcB 22 (some 37) rfl rfl hqt116 (Ak h (some ⟨Bt113,0,none⟩) 1 [Ag] _ (hqt116.hp 0 rfl) (hT.fr hqt116.fr H.low).1 (Ah (hqt116.hold 4 rfl)) (by simp)) (fun x=>cu x) ?_ gn)
         intro Yt117 hqt117
         simp only[nn]
         refine gr (rs:= [23]) (Ar 23 (some 38) rfl rfl (by kernel_rfl) (Da rfl rfl rfl rfl rfl rfl rfl rfl rfl rfl) (Nat.succ_pos _) hqt117 (fun _ hZ=>cu hZ) ?_ gn)
         intro Yt118 Bt118 hEt118 hqt118
         clear hEt118
         simp only[nn]
         refine gr (rs:= [24]) (gcW 24 (some 39) rfl rfl (cu hqt118) (Dc Bt118 9 [Aq h.l.length Ag,0,Ai vs.length,Ai ns.length,Af vs,Af [Ag],Bw ns,Ay h.l.length vs,Ay h.l.length [Ag]] _ (hqt118.hold 5 rfl) (by simp)) ?_ gn)
         refine gp 25 (some 12) (.int .i64 (orE [Aq h.l.length Ag,0,Ai vs.length,Ai ns.length,Af vs,Af [Ag],Bw ns,Ay h.l.length vs,Ay h.l.length [Ag]])) rfl rfl (cu hqt118) ?_
         refine wpAnyH_done (by kernel_rfl) ?_ _
         try simp only[nn]
         exact pN ⟨_,_,_,rfl,cu hqt118⟩
       ·intro Yt120 Bt120 hEt120 hqt120
        clear hEt120
        simp only[nn]
        refine gr (rs:= [10]) (gcB 10 (some 25) rfl rfl hqt120 (Aw B c vs _ (hT.fr hqt120.fr H.low).1 (HRV hqt120.fr) hz1) (fun x=>cu x) ?_ gn)
        intro Yt121 hqt121
        simp only[nn]
        refine gr (rs:= [13]) (gcB 13 (some 28) rfl rfl hqt121 (Aw (some ⟨Bt92,0,none⟩) 1 [Ag] _ (hT.fr hqt121.fr H.low).1 (Ah (hqt121.hold 3 rfl)) (by simp)) (fun x=>cu x) ?_ gn)
        intro Yt122 hqt122
        simp only[nn]
        refine gr (rs:= [15]) (gcB 15 (some 30) rfl rfl hqt122 (Db NB nc ns _ (hT.fr hqt122.fr H.low).1 (HRN hqt122.fr) hz2) (fun x=>cu x) ?_ gn)
        intro Yt123 hqt123
        simp only[nn]
        refine gr (rs:= [18]) (gcB 18 (some 33) rfl rfl hqt123 (Ak h B c vs _ (hqt123.hp 0 rfl) (hT.fr hqt123.fr H.low).1 (HRV hqt123.fr) hz1) (fun x=>cu x) ?_ gn)
        intro Yt124 hqt124
        simp only[nn]
        refine gr (rs:= [22]) (gcB 22 (some 37) rfl rfl hqt124 (Ak h (some ⟨Bt120,0,none⟩) 1 [Ag] _ (hqt124.hp 0 rfl) (hT.fr hqt124.fr H.low).1 (Ah (hqt124.hold 4 rfl)) (by simp)) (fun x=>cu x) ?_ gn)
        intro Yt125 hqt125
        simp only[nn]
        refine gr (rs:= [23]) (Ar 23 (some 38) rfl rfl (by kernel_rfl) (Da rfl rfl rfl rfl rfl rfl rfl rfl rfl rfl) (Nat.succ_pos _) hqt125 (fun _ hZ=>cu hZ) ?_ gn)
        intro Yt126 Bt126 hEt126 hqt126
        clear hEt126
        simp only[nn]
        refine gr (rs:= [24]) (gcW 24 (some 39) rfl rfl (cu hqt126) (Dc Bt126 9 [Aq h.l.length Ag,0,Ai vs.length,Ai ns.length,Af vs,Af [Ag],Bw ns,Ay h.l.length vs,Ay h.l.length [Ag]] _ (hqt126.hold 5 rfl) (by simp)) ?_ gn)
        refine gp 25 (some 12) (.int .i64 (orE [Aq h.l.length Ag,0,Ai vs.length,Ai ns.length,Af vs,Af [Ag],Bw ns,Ay h.l.length vs,Ay h.l.length [Ag]])) rfl rfl (cu hqt126) ?_
        refine wpAnyH_done (by kernel_rfl) ?_ _
        try simp only[nn]
        exact pN ⟨_,_,_,rfl,cu hqt126⟩
      ·intro Yt128 Bt128 hEt128 hqt128
       clear hEt128
       simp only[nn]
       refine gr (rs:= [8]) (gcW 8 (some 23) rfl rfl (cu hqt128) (Eg NB ns.length nc _) ?_ gn)
       simp only[nn]
       refine gr (rs:= [10]) (gcB 10 (some 25) rfl rfl hqt128 (Aw B c vs _ (hT.fr hqt128.fr H.low).1 (HRV hqt128.fr) hz1) (fun x=>cu x) ?_ gn)
       intro Yt130 hqt130
       simp only[nn]
       refine gr (rs:= [13]) (gcB 13 (some 28) rfl rfl hqt130 (Aw (some ⟨Bt92,0,none⟩) 1 [Ag] _ (hT.fr hqt130.fr H.low).1 (Ah (hqt130.hold 3 rfl)) (by simp)) (fun x=>cu x) ?_ gn)
       intro Yt131 hqt131
       simp only[nn]
       refine gr (rs:= [15]) (gcB 15 (some 30) rfl rfl hqt131 (Db NB nc ns _ (hT.fr hqt131.fr H.low).1 (HRN hqt131.fr) hz2) (fun x=>cu x) ?_ gn)
       intro Yt132 hqt132
       simp only[nn]
       refine gr (rs:= [18]) (gcB 18 (some 33) rfl rfl hqt132 (Ak h B c vs _ (hqt132.hp 0 rfl) (hT.fr hqt132.fr H.low).1 (HRV hqt132.fr) hz1) (fun x=>cu x) ?_ gn)
       intro Yt133 hqt133
       simp only[nn]
       refine gr (rs:= [22]) (gcB 22 (some 37) rfl rfl hqt133 (Ak h (some ⟨Bt128,0,none⟩) 1 [Ag] _ (hqt133.hp 0 rfl) (hT.fr hqt133.fr H.low).1 (Ah (hqt133.hold 4 rfl)) (by simp)) (fun x=>cu x) ?_ gn)
       intro Yt134 hqt134
       simp only[nn]
       refine gr (rs:= [23]) (Ar 23 (some 38) rfl rfl (by kernel_rfl) (Da rfl rfl rfl rfl rfl rfl rfl rfl rfl rfl) (Nat.succ_pos _) hqt134 (fun _ hZ=>cu hZ) ?_ gn)
       intro Yt135 Bt135 hEt135 hqt135
       clear hEt135
       simp only[nn]
       refine gr (rs:= [24]) (gcW 24 (some 39) rfl rfl (cu hqt135) (Dc Bt135 9 [Aq h.l.length Ag,0,Ai vs.length,Ai ns.length,Af vs,Af [Ag],Bw ns,Ay h.l.length vs,Ay h.l.length [Ag]] _ (hqt135.hold 5 rfl) (by simp)) ?_ gn)
       refine gp 25 (some 12) (.int .i64 (orE [Aq h.l.length Ag,0,Ai vs.length,Ai ns.length,Af vs,Af [Ag],Bw ns,Ay h.l.length vs,Ay h.l.length [Ag]])) rfl rfl (cu hqt135) ?_
       refine wpAnyH_done (by kernel_rfl) ?_ _
       try simp only[nn]
       exact pN ⟨_,_,_,rfl,cu hqt135⟩
     ·intro Yt137 Bt137 hEt137 hqt137
      clear hEt137
      simp only[nn]
      refine gr (rs:= [8,12]) (gcW 8 (some 23) rfl rfl (cu hqt137) (Eg NB ns.length nc _) ?_ (Ar 12 (some 27) rfl rfl (by kernel_rfl) (Bi rfl rfl) (Nat.succ_pos _) hqt137 (fun _ hZ=>cu hZ) ?_ gn))
      ·simp only[nn]
       refine gr (rs:= [10,12]) (gcB 10 (some 25) rfl rfl hqt137 (Aw B c vs _ (hT.fr hqt137.fr H.low).1 (HRV hqt137.fr) hz1) (fun x=>cu x) ?_ (Ar 12 (some 27) rfl rfl (by kernel_rfl) (Bi rfl rfl) (Nat.succ_pos _) hqt137 (fun _ hZ=>cu hZ) ?_ gn))
       ·intro Yt139 hqt139
        simp only[nn]
        refine gr (rs:= [12]) (Ar 12 (some 27) rfl rfl (by kernel_rfl) (Bi rfl rfl) (Nat.succ_pos _) hqt139 (fun _ hZ=>cu hZ) ?_ gn)
        intro Yt140 Bt140 hEt140 hqt140
        clear hEt140
        simp only[nn]
        refine gr (rs:= [13]) (gcB 13 (some 28) rfl rfl hqt140 (Aw (some ⟨Bt140,0,none⟩) 1 [Ag] _ (hT.fr hqt140.fr H.low).1 (Ah (hqt140.hold 4 rfl)) (by simp)) (fun x=>cu x) ?_ gn)
        intro Yt141 hqt141
        simp only[nn]
        refine gr (rs:= [15]) (gcB 15 (some 30) rfl rfl hqt141 (Db NB nc ns _ (hT.fr hqt141.fr H.low).1 (HRN hqt141.fr) hz2) (fun x=>cu x) ?_ gn)
        intro Yt142 hqt142
        simp only[nn]
        refine gr (rs:= [18]) (gcB 18 (some 33) rfl rfl hqt142 (Ak h B c vs _ (hqt142.hp 0 rfl) (hT.fr hqt142.fr H.low).1 (HRV hqt142.fr) hz1) (fun x=>cu x) ?_ gn)
        intro Yt143 hqt143
        simp only[nn]
        refine gr (rs:= [22]) (gcB 22 (some 37) rfl rfl hqt143 (Ak h (some ⟨Bt137,0,none⟩) 1 [Ag] _ (hqt143.hp 0 rfl) (hT.fr hqt143.fr H.low).1 (Ah (hqt143.hold 3 rfl)) (by simp)) (fun x=>cu x) ?_ gn)
        intro Yt144 hqt144
        simp only[nn]
        refine gr (rs:= [23]) (Ar 23 (some 38) rfl rfl (by kernel_rfl) (Da rfl rfl rfl rfl rfl rfl rfl rfl rfl rfl) (Nat.succ_pos _) hqt144 (fun _ hZ=>cu hZ) ?_ gn)
        intro Yt145 Bt145 hEt145 hqt145
        clear hEt145
        simp only[nn]
        refine gr (rs:= [24]) (gcW 24 (some 39) rfl rfl (cu hqt145) (Dc Bt145 9 [Aq h.l.length Ag,0,Ai vs.length,Ai ns.length,Af vs,Af [Ag],Bw ns,Ay h.l.length vs,Ay h.l.length [Ag]] _ (hqt145.hold 5 rfl) (by simp)) ?_ gn)
        refine gp 25 (some 12) (.int .i64 (orE [Aq h.l.length Ag,0,Ai vs.length,Ai ns.length,Af vs,Af [Ag],Bw ns,Ay h.l.length vs,Ay h.l.length [Ag]])) rfl rfl (cu hqt145) ?_
        refine wpAnyH_done (by kernel_rfl) ?_ _
        try simp only[nn]
        exact pN ⟨_,_,_,rfl,cu hqt145⟩
       ·intro Yt147 Bt147 hEt147 hqt147
        clear hEt147
        simp only[nn]
        refine gr (rs:= [10]) (gcB 10 (some 25) rfl rfl hqt147 (Aw B c vs _ (hT.fr hqt147.fr H.low).1 (HRV hqt147.fr) hz1) (fun x=>cu x) ?_ gn)
        intro Yt148 hqt148
        simp only[nn]
        refine gr (rs:= [13]) (gcB 13 (some 28) rfl rfl hqt148 (Aw (some ⟨Bt147,0,none⟩) 1 [Ag] _ (hT.fr hqt148.fr H.low).1 (Ah (hqt148.hold 4 rfl)) (by simp)) (fun x=>cu x) ?_ gn)
        intro Yt149 hqt149
        simp only[nn]
        refine gr (rs:= [15]) (gcB 15 (some 30) rfl rfl hqt149 (Db NB nc ns _ (hT.fr hqt149.fr H.low).1 (HRN hqt149.fr) hz2) (fun x=>cu x) ?_ gn)
        intro Yt150 hqt150
        simp only[nn]
        refine gr (rs:= [18]) (gcB 18 (some 33) rfl rfl hqt150 (Ak h B c vs _ (hqt150.hp 0 rfl) (hT.fr hqt150.fr H.low).1 (HRV hqt150.fr) hz1) (fun x=>cu x) ?_ gn)
        intro Yt151 hqt151
        simp only[nn]
        refine gr (rs:= [22]) (gcB 22 (some 37) rfl rfl hqt151 (Ak h (some ⟨Bt137,0,none⟩) 1 [Ag] _ (hqt151.hp 0 rfl) (hT.fr hqt151.fr H.low).1 (Ah (hqt151.hold 3 rfl)) (by simp)) (fun x=>cu x) ?_ gn)
        intro Yt152 hqt152
        simp only[nn]
        refine gr (rs:= [23]) (Ar 23 (some 38) rfl rfl (by kernel_rfl) (Da rfl rfl rfl rfl rfl rfl rfl rfl rfl rfl) (Nat.succ_pos _) hqt152 (fun _ hZ=>cu hZ) ?_ gn)
        intro Yt153 Bt153 hEt153 hqt153
        clear hEt153
        simp only[nn]
        refine gr (rs:= [24]) (gcW 24 (some 39) rfl rfl (cu hqt153) (Dc Bt153 9 [Aq h.l.length Ag,0,Ai vs.length,Ai ns.length,Af vs,Af [Ag],Bw ns,Ay h.l.length vs,Ay h.l.length [Ag]] _ (hqt153.hold 5 rfl) (by simp)) ?_ gn)
        refine gp 25 (some 12) (.int .i64 (orE [Aq h.l.length Ag,0,Ai vs.length,Ai ns.length,Af vs,Af [Ag],Bw ns,Ay h.l.length vs,Ay h.l.length [Ag]])) rfl rfl (cu hqt153) ?_
        refine wpAnyH_done (by kernel_rfl) ?_ _
        try simp only[nn]
        exact pN ⟨_,_,_,rfl,cu hqt153⟩
      ·intro Yt155 Bt155 hEt155 hqt155
       clear hEt155
       simp only[nn]
       refine gr (rs:= [8]) (gcW 8 (some 23) rfl rfl (cu hqt155) (Eg NB ns.length nc _) ?_ gn)
       simp only[nn]
       refine gr (rs:= [10]) (gcB 10 (some 25) rfl rfl hqt155 (Aw B c vs _ (hT.fr hqt155.fr H.low).1 (HRV hqt155.fr) hz1) (fun x=>cu x) ?_ gn)
       intro Yt157 hqt157
       simp only[nn]
       refine gr (rs:= [13]) (gcB 13 (some 28) rfl rfl hqt157 (Aw (some ⟨Bt155,0,none⟩) 1 [Ag] _ (hT.fr hqt157.fr H.low).1 (Ah (hqt157.hold 4 rfl)) (by simp)) (fun x=>cu x) ?_ gn)
       intro Yt158 hqt158
       simp only[nn]
       refine gr (rs:= [15]) (gcB 15 (some 30) rfl rfl hqt158 (Db NB nc ns _ (hT.fr hqt158.fr H.low).1 (HRN hqt158.fr) hz2) (fun x=>cu x) ?_ gn)
       intro Yt159 hqt159
       simp only[nn]
       refine gr (rs:= [18]) (gcB 18 (some 33) rfl rfl hqt159 (Ak h B c vs _ (hqt159.hp 0 rfl) (hT.fr hqt159.fr H.low).1 (HRV hqt159.fr) hz1) (fun x=>cu x) ?_ gn)
       intro Yt160 hqt160
       simp only[nn]
       refine gr (rs:= [22]) (gcB 22 (some 37) rfl rfl hqt160 (Ak h (some ⟨Bt137,0,none⟩) 1 [Ag] _ (hqt160.hp 0 rfl) (hT.fr hqt160.fr H.low).1 (Ah (hqt160.hold 3 rfl)) (by simp)) (fun x=>cu x) ?_ gn)
       intro Yt161 hqt161
       simp only[nn]
       refine gr (rs:= [23]) (Ar 23 (some 38) rfl rfl (by kernel_rfl) (Da rfl rfl rfl rfl rfl rfl rfl rfl rfl rfl) (Nat.succ_pos _) hqt161 (fun _ hZ=>cu hZ) ?_ gn)
       intro Yt162 Bt162 hEt162 hqt162
       clear hEt162
       simp only[nn]
       refine gr (rs:= [24]) (gcW 24 (some 39) rfl rfl (cu hqt162) (Dc Bt162 9 [Aq h.l.length Ag,0,Ai vs.length,Ai ns.length,Af vs,Af [Ag],Bw ns,Ay h.l.length vs,Ay h.l.length [Ag]] _ (hqt162.hold 5 rfl) (by simp)) ?_ gn)
       refine gp 25 (some 12) (.int .i64 (orE [Aq h.l.length Ag,0,Ai vs.length,Ai ns.length,Af vs,Af [Ag],Bw ns,Ay h.l.length vs,Ay h.l.length [Ag]])) rfl rfl (cu hqt162) ?_
       refine wpAnyH_done (by kernel_rfl) ?_ _
       try simp only[nn]
       exact pN ⟨_,_,_,rfl,cu hqt162⟩
    ·intro Yt164 Bt164 hEt164 hqt164
     clear hEt164
     simp only[nn]
     refine gr (rs:= [6,21]) (gcW 6 (some 21) rfl rfl (cu hqt164) (Gk B vs.length c _) ?_ (Ar 21 (some 36) rfl rfl (by kernel_rfl) (Bi rfl rfl) (Nat.succ_pos _) hqt164 (fun _ hZ=>cu hZ) ?_ gn))
     ·simp only[nn]
      refine gr (rs:= [8,21]) (gcW 8 (some 23) rfl rfl (cu hqt164) (Eg NB ns.length nc _) ?_ (Ar 21 (some 36) rfl rfl (by kernel_rfl) (Bi rfl rfl) (Nat.succ_pos _) hqt164 (fun _ hZ=>cu hZ) ?_ gn))
      ·simp only[nn]
       refine gr (rs:= [10,21]) (gcB 10 (some 25) rfl rfl hqt164 (Aw B c vs _ (hT.fr hqt164.fr H.low).1 (HRV hqt164.fr) hz1) (fun x=>cu x) ?_ (Ar 21 (some 36) rfl rfl (by kernel_rfl) (Bi rfl rfl) (Nat.succ_pos _) hqt164 (fun _ hZ=>cu hZ) ?_ gn))
       ·intro Yt167 hqt167
        simp only[nn]
        refine gr (rs:= [13,21]) (gcB 13 (some 28) rfl rfl hqt167 (Aw (some ⟨Bt164,0,none⟩) 1 [Ag] _ (hT.fr hqt167.fr H.low).1 (Ah (hqt167.hold 3 rfl)) (by simp)) (fun x=>cu x) ?_ (Ar 21 (some 36) rfl rfl (by kernel_rfl) (Bi rfl rfl) (Nat.succ_pos _) hqt167 (fun _ hZ=>cu hZ) ?_ gn))
        ·intro Yt168 hqt168
         simp only[nn]
         refine gr (rs:= [15,21]) (gcB 15 (some 30) rfl rfl hqt168 (Db NB nc ns _ (hT.fr hqt168.fr H.low).1 (HRN hqt168.fr) hz2) (fun x=>cu x) ?_ (Ar 21 (some 36) rfl rfl (by kernel_rfl) (Bi rfl rfl) (Nat.succ_pos _) hqt168 (fun _ hZ=>cu hZ) ?_ gn))
         ·intro Yt169 hqt169
          simp only[nn]
          refine gr (rs:= [18,21]) (gcB 18 (some 33) rfl rfl hqt169 (Ak h B c vs _ (hqt169.hp 0 rfl) (hT.fr hqt169.fr H.low).1 (HRV hqt169.fr) hz1) (fun x=>cu x) ?_ (Ar 21 (some 36) rfl rfl (by kernel_rfl) (Bi rfl rfl) (Nat.succ_pos _) hqt169 (fun _ hZ=>cu hZ) ?_ gn))
          ·intro Yt170 hqt170
           simp only[nn]
           refine gr (rs:= [21]) (Ar 21 (some 36) rfl rfl (by kernel_rfl) (Bi rfl rfl) (Nat.succ_pos _) hqt170 (fun _ hZ=>cu hZ) ?_ gn)
           intro Yt171 Bt171 hEt171 hqt171
           clear hEt171
           simp only[nn]
           refine gr (rs:= [22]) (gcB 22 (some 37) rfl rfl hqt171 (Ak h (some ⟨Bt171,0,none⟩) 1 [Ag] _ (hqt171.hp 0 rfl) (hT.fr hqt171.fr H.low).1 (Ah (hqt171.hold 4 rfl)) (by simp)) (fun x=>cu x) ?_ gn)
           intro Yt172 hqt172
           simp only[nn]
           refine gr (rs:= [23]) (Ar 23 (some 38) rfl rfl (by kernel_rfl) (Da rfl rfl rfl rfl rfl rfl rfl rfl rfl rfl) (Nat.succ_pos _) hqt172 (fun _ hZ=>cu hZ) ?_ gn)
           intro Yt173 Bt173 hEt173 hqt173
           clear hEt173
           simp only[nn]
           refine gr (rs:= [24]) (gcW 24 (some 39) rfl rfl (cu hqt173) (Dc Bt173 9 [Aq h.l.length Ag,0,Ai vs.length,Ai ns.length,Af vs,Af [Ag],Bw ns,Ay h.l.length vs,Ay h.l.length [Ag]] _ (hqt173.hold 5 rfl) (by simp)) ?_ gn)
           refine gp 25 (some 12) (.int .i64 (orE [Aq h.l.length Ag,0,Ai vs.length,Ai ns.length,Af vs,Af [Ag],Bw ns,Ay h.l.length vs,Ay h.l.length [Ag]])) rfl rfl (cu hqt173) ?_
           refine wpAnyH_done (by kernel_rfl) ?_ _
           try simp only[nn]
           exact pN ⟨_,_,_,rfl,cu hqt173⟩
          ·intro Yt175 Bt175 hEt175 hqt175
           clear hEt175
           simp only[nn]
           refine gr (rs:= [18]) (gcB 18 (some 33) rfl rfl hqt175 (Ak h B c vs _ (hqt175.hp 0 rfl) (hT.fr hqt175.fr H.low).1 (HRV hqt175.fr) hz1) (fun x=>cu x) ?_ gn)
           intro Yt176 hqt176
           simp only[nn]
           refine gr (rs:= [22]) (gcB 22 (some 37) rfl rfl hqt176 (Ak h (some ⟨Bt175,0,none⟩) 1 [Ag] _ (hqt176.hp 0 rfl) (hT.fr hqt176.fr H.low).1 (Ah (hqt176.hold 4 rfl)) (by simp)) (fun x=>cu x) ?_ gn)
           intro Yt177 hqt177
           simp only[nn]
           refine gr (rs:= [23]) (Ar 23 (some 38) rfl rfl (by kernel_rfl) (Da rfl rfl rfl rfl rfl rfl rfl rfl rfl rfl) (Nat.succ_pos _) hqt177 (fun _ hZ=>cu hZ) ?_ gn)
           intro Yt178 Bt178 hEt178 hqt178
           clear hEt178
           simp only[nn]
           refine gr (rs:= [24]) (gcW 24 (some 39) rfl rfl (cu hqt178) (Dc Bt178 9 [Aq h.l.length Ag,0,Ai vs.length,Ai ns.length,Af vs,Af [Ag],Bw ns,Ay h.l.length vs,Ay h.l.length [Ag]] _ (hqt178.hold 5 rfl) (by simp)) ?_ gn)
           refine gp 25 (some 12) (.int .i64 (orE [Aq h.l.length Ag,0,Ai vs.length,Ai ns.length,Af vs,Af [Ag],Bw ns,Ay h.l.length vs,Ay h.l.length [Ag]])) rfl rfl (cu hqt178) ?_
           refine wpAnyH_done (by kernel_rfl) ?_ _
           try simp only[nn]
           exact pN ⟨_,_,_,rfl,cu hqt178⟩
         ·intro Yt180 Bt180 hEt180 hqt180
          clear hEt180
          simp only[nn]
          refine gr (rs:= [15]) (gcB 15 (some 30) rfl rfl hqt180 (Db NB nc ns _ (hT.fr hqt180.fr H.low).1 (HRN hqt180.fr) hz2) (fun x=>cu x) ?_ gn)
          intro Yt181 hqt181
          simp only[nn]
          refine gr (rs:= [18]) (gcB 18 (some 33) rfl rfl hqt181 (Ak h B c vs _ (hqt181.hp 0 rfl) (hT.fr hqt181.fr H.low).1 (HRV hqt181.fr) hz1) (fun x=>cu x) ?_ gn)
          intro Yt182 hqt182
          simp only[nn]
          refine gr (rs:= [22]) (gcB 22 (some 37) rfl rfl hqt182 (Ak h (some ⟨Bt180,0,none⟩) 1 [Ag] _ (hqt182.hp 0 rfl) (hT.fr hqt182.fr H.low).1 (Ah (hqt182.hold 4 rfl)) (by simp)) (fun x=>cu x) ?_ gn)
          intro Yt183 hqt183
          simp only[nn]
          refine gr (rs:= [23]) (Ar 23 (some 38) rfl rfl (by kernel_rfl) (Da rfl rfl rfl rfl rfl rfl rfl rfl rfl rfl) (Nat.succ_pos _) hqt183 (fun _ hZ=>cu hZ) ?_ gn)
          intro Yt184 Bt184 hEt184 hqt184
          clear hEt184
          simp only[nn]
          refine gr (rs:= [24]) (gcW 24 (some 39) rfl rfl (cu hqt184) (Dc Bt184 9 [Aq h.l.length Ag,0,Ai vs.length,Ai ns.length,Af vs,Af [Ag],Bw ns,Ay h.l.length vs,Ay h.l.length [Ag]] _ (hqt184.hold 5 rfl) (by simp)) ?_ gn)
          refine gp 25 (some 12) (.int .i64 (orE [Aq h.l.length Ag,0,Ai vs.length,Ai ns.length,Af vs,Af [Ag],Bw ns,Ay h.l.length vs,Ay h.l.length [Ag]])) rfl rfl (cu hqt184) ?_
          refine wpAnyH_done (by kernel_rfl) ?_ _
          try simp only[nn]
          exact pN ⟨_,_,_,rfl,cu hqt184⟩
        ·intro Yt186 Bt186 hEt186 hqt186
         clear hEt186
         simp only[nn]
         refine gr (rs:= [13]) (gcB 13 (some 28) rfl rfl hqt186 (Aw (some ⟨Bt164,0,none⟩) 1 [Ag] _ (hT.fr hqt186.fr H.low).1 (Ah (hqt186.hold 3 rfl)) (by simp)) (fun x=>cu x) ?_ gn)
         intro Yt187 hqt187
         simp only[nn]
         refine gr (rs:= [15]) (gcB 15 (some 30) rfl rfl hqt187 (Db NB nc ns _ (hT.fr hqt187.fr H.low).1 (HRN hqt187.fr) hz2) (fun x=>cu x) ?_ gn)
         intro Yt188 hqt188
         simp only[nn]
         refine gr (rs:= [18]) (gcB 18 (some 33) rfl rfl hqt188 (Ak h B c vs _ (hqt188.hp 0 rfl) (hT.fr hqt188.fr H.low).1 (HRV hqt188.fr) hz1) (fun x=>cu x) ?_ gn)
         intro Yt189 hqt189
         simp only[nn]
         refine gr (rs:= [22]) (gcB 22 (some 37) rfl rfl hqt189 (Ak h (some ⟨Bt186,0,none⟩) 1 [Ag] _ (hqt189.hp 0 rfl) (hT.fr hqt189.fr H.low).1 (Ah (hqt189.hold 4 rfl)) (by simp)) (fun x=>cu x) ?_ gn)
         intro Yt190 hqt190
         simp only[nn]
         refine gr (rs:= [23]) (Ar 23 (some 38) rfl rfl (by kernel_rfl) (Da rfl rfl rfl rfl rfl rfl rfl rfl rfl rfl) (Nat.succ_pos _) hqt190 (fun _ hZ=>cu hZ) ?_ gn)
         intro Yt191 Bt191 hEt191 hqt191
         clear hEt191
         simp only[nn]
         refine gr (rs:= [24]) (gcW 24 (some 39) rfl rfl (cu hqt191) (Dc Bt191 9 [Aq h.l.length Ag,0,Ai vs.length,Ai ns.length,Af vs,Af [Ag],Bw ns,Ay h.l.length vs,Ay h.l.length [Ag]] _ (hqt191.hold 5 rfl) (by simp)) ?_ gn)
         refine gp 25 (some 12) (.int .i64 (orE [Aq h.l.length Ag,0,Ai vs.length,Ai ns.length,Af vs,Af [Ag],Bw ns,Ay h.l.length vs,Ay h.l.length [Ag]])) rfl rfl (cu hqt191) ?_
         refine wpAnyH_done (by kernel_rfl) ?_ _
         try simp only[nn]
         exact pN ⟨_,_,_,rfl,cu hqt191⟩
       ·intro Yt193 Bt193 hEt193 hqt193
        clear hEt193
        simp only[nn]
        refine gr (rs:= [10]) (gcB 10 (some 25) rfl rfl hqt193 (Aw B c vs _ (hT.fr hqt193.fr H.low).1 (HRV hqt193.fr) hz1) (fun x=>cu x) ?_ gn)
        intro Yt194 hqt194
        simp only[nn]
        refine gr (rs:= [13]) (gcB 13 (some 28) rfl rfl hqt194 (Aw (some ⟨Bt164,0,none⟩) 1 [Ag] _ (hT.fr hqt194.fr H.low).1 (Ah (hqt194.hold 3 rfl)) (by simp)) (fun x=>cu x) ?_ gn)
        intro Yt195 hqt195
        simp only[nn]
        refine gr (rs:= [15]) (gcB 15 (some 30) rfl rfl hqt195 (Db NB nc ns _ (hT.fr hqt195.fr H.low).1 (HRN hqt195.fr) hz2) (fun x=>cu x) ?_ gn)
        intro Yt196 hqt196
        simp only[nn]
        refine gr (rs:= [18]) (gcB 18 (some 33) rfl rfl hqt196 (Ak h B c vs _ (hqt196.hp 0 rfl) (hT.fr hqt196.fr H.low).1 (HRV hqt196.fr) hz1) (fun x=>cu x) ?_ gn)
        intro Yt197 hqt197
        simp only[nn]
        refine gr (rs:= [22]) (gcB 22 (some 37) rfl rfl hqt197 (Ak h (some ⟨Bt193,0,none⟩) 1 [Ag] _ (hqt197.hp 0 rfl) (hT.fr hqt197.fr H.low).1 (Ah (hqt197.hold 4 rfl)) (by simp)) (fun x=>cu x) ?_ gn)
        intro Yt198 hqt198
        simp only[nn]
        refine gr (rs:= [23]) (Ar 23 (some 38) rfl rfl (by kernel_rfl) (Da rfl rfl rfl rfl rfl rfl rfl rfl rfl rfl) (Nat.succ_pos _) hqt198 (fun _ hZ=>cu hZ) ?_ gn)
        intro Yt199 Bt199 hEt199 hqt199
        clear hEt199
        simp only[nn]
        refine gr (rs:= [24]) (gcW 24 (some 39) rfl rfl (cu hqt199) (Dc Bt199 9 [Aq h.l.length Ag,0,Ai vs.length,Ai ns.length,Af vs,Af [Ag],Bw ns,Ay h.l.length vs,Ay h.l.length [Ag]] _ (hqt199.hold 5 rfl) (by simp)) ?_ gn)
        refine gp 25 (some 12) (.int .i64 (orE [Aq h.l.length Ag,0,Ai vs.length,Ai ns.length,Af vs,Af [Ag],Bw ns,Ay h.l.length vs,Ay h.l.length [Ag]])) rfl rfl (cu hqt199) ?_
        refine wpAnyH_done (by kernel_rfl) ?_ _
        try simp only[nn]
        exact pN ⟨_,_,_,rfl,cu hqt199⟩
      ·intro Yt201 Bt201 hEt201 hqt201
       clear hEt201
       simp only[nn]
       refine gr (rs:= [8]) (gcW 8 (some 23) rfl rfl (cu hqt201) (Eg NB ns.length nc _) ?_ gn)
       simp only[nn]
       refine gr (rs:= [10]) (gcB 10 (some 25) rfl rfl hqt201 (Aw B c vs _ (hT.fr hqt201.fr H.low).1 (HRV hqt201.fr) hz1) (fun x=>cu x) ?_ gn)
       intro Yt203 hqt203
       simp only[nn]
       refine gr (rs:= [13]) (gcB 13 (some 28) rfl rfl hqt203 (Aw (some ⟨Bt164,0,none⟩) 1 [Ag] _ (hT.fr hqt203.fr H.low).1 (Ah (hqt203.hold 3 rfl)) (by simp)) (fun x=>cu x) ?_ gn)
       intro Yt204 hqt204
       simp only[nn]
       refine gr (rs:= [15]) (gcB 15 (some 30) rfl rfl hqt204 (Db NB nc ns _ (hT.fr hqt204.fr H.low).1 (HRN hqt204.fr) hz2) (fun x=>cu x) ?_ gn)
       intro Yt205 hqt205
       simp only[nn]
       refine gr (rs:= [18]) (gcB 18 (some 33) rfl rfl hqt205 (Ak h B c vs _ (hqt205.hp 0 rfl) (hT.fr hqt205.fr H.low).1 (HRV hqt205.fr) hz1) (fun x=>cu x) ?_ gn)
       intro Yt206 hqt206
       simp only[nn]
       refine gr (rs:= [22]) (gcB 22 (some 37) rfl rfl hqt206 (Ak h (some ⟨Bt201,0,none⟩) 1 [Ag] _ (hqt206.hp 0 rfl) (hT.fr hqt206.fr H.low).1 (Ah (hqt206.hold 4 rfl)) (by simp)) (fun x=>cu x) ?_ gn)
       intro Yt207 hqt207
       simp only[nn]
       refine gr (rs:= [23]) (Ar 23 (some 38) rfl rfl (by kernel_rfl) (Da rfl rfl rfl rfl rfl rfl rfl rfl rfl rfl) (Nat.succ_pos _) hqt207 (fun _ hZ=>cu hZ) ?_ gn)
       intro Yt208 Bt208 hEt208 hqt208
       clear hEt208
       simp only[nn]
       refine gr (rs:= [24]) (gcW 24 (some 39) rfl rfl (cu hqt208) (Dc Bt208 9 [Aq h.l.length Ag,0,Ai vs.length,Ai ns.length,Af vs,Af [Ag],Bw ns,Ay h.l.length vs,Ay h.l.length [Ag]] _ (hqt208.hold 5 rfl) (by simp)) ?_ gn)
       refine gp 25 (some 12) (.int .i64 (orE [Aq h.l.length Ag,0,Ai vs.length,Ai ns.length,Af vs,Af [Ag],Bw ns,Ay h.l.length vs,Ay h.l.length [Ag]])) rfl rfl (cu hqt208) ?_
       refine wpAnyH_done (by kernel_rfl) ?_ _
       try simp only[nn]
       exact pN ⟨_,_,_,rfl,cu hqt208⟩
     ·intro Yt210 Bt210 hEt210 hqt210
      clear hEt210
      simp only[nn]
      refine gr (rs:= [6]) (gcW 6 (some 21) rfl rfl (cu hqt210) (Gk B vs.length c _) ?_ gn)
      simp only[nn]
      refine gr (rs:= [8]) (gcW 8 (some 23) rfl rfl (cu hqt210) (Eg NB ns.length nc _) ?_ gn)
      simp only[nn]
      refine gr (rs:= [10]) (gcB 10 (some 25) rfl rfl hqt210 (Aw B c vs _ (hT.fr hqt210.fr H.low).1 (HRV hqt210.fr) hz1) (fun x=>cu x) ?_ gn)
      intro Yt213 hqt213
      simp only[nn]
      refine gr (rs:= [13]) (gcB 13 (some 28) rfl rfl hqt213 (Aw (some ⟨Bt164,0,none⟩) 1 [Ag] _ (hT.fr hqt213.fr H.low).1 (Ah (hqt213.hold 3 rfl)) (by simp)) (fun x=>cu x) ?_ gn)
      intro Yt214 hqt214
      simp only[nn]
      refine gr (rs:= [15]) (gcB 15 (some 30) rfl rfl hqt214 (Db NB nc ns _ (hT.fr hqt214.fr H.low).1 (HRN hqt214.fr) hz2) (fun x=>cu x) ?_ gn)
      intro Yt215 hqt215
      simp only[nn]
      refine gr (rs:= [18]) (gcB 18 (some 33) rfl rfl hqt215 (Ak h B c vs _ (hqt215.hp 0 rfl) (hT.fr hqt215.fr H.low).1 (HRV hqt215.fr) hz1) (fun x=>cu x) ?_ gn)
      intro Yt216 hqt216
      simp only[nn]
      refine gr (rs:= [22]) (gcB 22 (some 37) rfl rfl hqt216 (Ak h (some ⟨Bt210,0,none⟩) 1 [Ag] _ (hqt216.hp 0 rfl) (hT.fr hqt216.fr H.low).1 (Ah (hqt216.hold 4 rfl)) (by simp)) (fun x=>cu x) ?_ gn)
      intro Yt217 hqt217
      simp only[nn]
      refine gr (rs:= [23]) (Ar 23 (some 38) rfl rfl (by kernel_rfl) (Da rfl rfl rfl rfl rfl rfl rfl rfl rfl rfl) (Nat.succ_pos _) hqt217 (fun _ hZ=>cu hZ) ?_ gn)
      intro Yt218 Bt218 hEt218 hqt218
      clear hEt218
      simp only[nn]
      refine gr (rs:= [24]) (gcW 24 (some 39) rfl rfl (cu hqt218) (Dc Bt218 9 [Aq h.l.length Ag,0,Ai vs.length,Ai ns.length,Af vs,Af [Ag],Bw ns,Ay h.l.length vs,Ay h.l.length [Ag]] _ (hqt218.hold 5 rfl) (by simp)) ?_ gn)
      refine gp 25 (some 12) (.int .i64 (orE [Aq h.l.length Ag,0,Ai vs.length,Ai ns.length,Af vs,Af [Ag],Bw ns,Ay h.l.length vs,Ay h.l.length [Ag]])) rfl rfl (cu hqt218) ?_
      refine wpAnyH_done (by kernel_rfl) ?_ _
      try simp only[nn]
      exact pN ⟨_,_,_,rfl,cu hqt218⟩
    ·intro Yt220 Bt220 hEt220 hqt220
     clear hEt220
     simp only[nn]
     refine gr (rs:= [6,12]) (gcW 6 (some 21) rfl rfl (cu hqt220) (Gk B vs.length c _) ?_ (Ar 12 (some 27) rfl rfl (by kernel_rfl) (Bi rfl rfl) (Nat.succ_pos _) hqt220 (fun _ hZ=>cu hZ) ?_ gn))
     ·simp only[nn]
      refine gr (rs:= [8,12]) (gcW 8 (some 23) rfl rfl (cu hqt220) (Eg NB ns.length nc _) ?_ (Ar 12 (some 27) rfl rfl (by kernel_rfl) (Bi rfl rfl) (Nat.succ_pos _) hqt220 (fun _ hZ=>cu hZ) ?_ gn))
      ·simp only[nn]
       refine gr (rs:= [10,12]) (gcB 10 (some 25) rfl rfl hqt220 (Aw B c vs _ (hT.fr hqt220.fr H.low).1 (HRV hqt220.fr) hz1) (fun x=>cu x) ?_ (Ar 12 (some 27) rfl rfl (by kernel_rfl) (Bi rfl rfl) (Nat.succ_pos _) hqt220 (fun _ hZ=>cu hZ) ?_ gn))
       ·intro Yt223 hqt223
        simp only[nn]
        refine gr (rs:= [12]) (Ar 12 (some 27) rfl rfl (by kernel_rfl) (Bi rfl rfl) (Nat.succ_pos _) hqt223 (fun _ hZ=>cu hZ) ?_ gn)
        intro Yt224 Bt224 hEt224 hqt224
        clear hEt224
        simp only[nn]
        refine gr (rs:= [13]) (gcB 13 (some 28) rfl rfl hqt224 (Aw (some ⟨Bt224,0,none⟩) 1 [Ag] _ (hT.fr hqt224.fr H.low).1 (Ah (hqt224.hold 4 rfl)) (by simp)) (fun x=>cu x) ?_ gn)
        intro Yt225 hqt225
        simp only[nn]
        refine gr (rs:= [15]) (gcB 15 (some 30) rfl rfl hqt225 (Db NB nc ns _ (hT.fr hqt225.fr H.low).1 (HRN hqt225.fr) hz2) (fun x=>cu x) ?_ gn)
        intro Yt226 hqt226
        simp only[nn]
        refine gr (rs:= [18]) (gcB 18 (some 33) rfl rfl hqt226 (Ak h B c vs _ (hqt226.hp 0 rfl) (hT.fr hqt226.fr H.low).1 (HRV hqt226.fr) hz1) (fun x=>cu x) ?_ gn)
        intro Yt227 hqt227
        simp only[nn]
        refine gr (rs:= [22]) (gcB 22 (some 37) rfl rfl hqt227 (Ak h (some ⟨Bt220,0,none⟩) 1 [Ag] _ (hqt227.hp 0 rfl) (hT.fr hqt227.fr H.low).1 (Ah (hqt227.hold 3 rfl)) (by simp)) (fun x=>cu x) ?_ gn)
        intro Yt228 hqt228
        simp only[nn]
        refine gr (rs:= [23]) (Ar 23 (some 38) rfl rfl (by kernel_rfl) (Da rfl rfl rfl rfl rfl rfl rfl rfl rfl rfl) (Nat.succ_pos _) hqt228 (fun _ hZ=>cu hZ) ?_ gn)
        intro Yt229 Bt229 hEt229 hqt229
        clear hEt229
        simp only[nn]
        refine gr (rs:= [24]) (gcW 24 (some 39) rfl rfl (cu hqt229) (Dc Bt229 9 [Aq h.l.length Ag,0,Ai vs.length,Ai ns.length,Af vs,Af [Ag],Bw ns,Ay h.l.length vs,Ay h.l.length [Ag]] _ (hqt229.hold 5 rfl) (by simp)) ?_ gn)
        refine gp 25 (some 12) (.int .i64 (orE [Aq h.l.length Ag,0,Ai vs.length,Ai ns.length,Af vs,Af [Ag],Bw ns,Ay h.l.length vs,Ay h.l.length [Ag]])) rfl rfl (cu hqt229) ?_
        refine wpAnyH_done (by kernel_rfl) ?_ _
        try simp only[nn]
        exact pN ⟨_,_,_,rfl,cu hqt229⟩
       ·intro Yt231 Bt231 hEt231 hqt231
        clear hEt231
        simp only[nn]
        refine gr (rs:= [10]) (gcB 10 (some 25) rfl rfl hqt231 (Aw B c vs _ (hT.fr hqt231.fr H.low).1 (HRV hqt231.fr) hz1) (fun x=>cu x) ?_ gn)
        intro Yt232 hqt232
        simp only[nn]
        refine gr (rs:= [13]) (gcB 13 (some 28) rfl rfl hqt232 (Aw (some ⟨Bt231,0,none⟩) 1 [Ag] _ (hT.fr hqt232.fr H.low).1 (Ah (hqt232.hold 4 rfl)) (by simp)) (fun x=>cu x) ?_ gn)
        intro Yt233 hqt233
        simp only[nn]
        refine gr (rs:= [15]) (gcB 15 (some 30) rfl rfl hqt233 (Db NB nc ns _ (hT.fr hqt233.fr H.low).1 (HRN hqt233.fr) hz2) (fun x=>cu x) ?_ gn)
        intro Yt234 hqt234
        simp only[nn]
        refine gr (rs:= [18]) (gcB 18 (some 33) rfl rfl hqt234 (Ak h B c vs _ (hqt234.hp 0 rfl) (hT.fr hqt234.fr H.low).1 (HRV hqt234.fr) hz1) (fun x=>cu x) ?_ gn)
        intro Yt235 hqt235
        simp only[nn]
        refine gr (rs:= [22]) (gcB 22 (some 37) rfl rfl hqt235 (Ak h (some ⟨Bt220,0,none⟩) 1 [Ag] _ (hqt235.hp 0 rfl) (hT.fr hqt235.fr H.low).1 (Ah (hqt235.hold 3 rfl)) (by simp)) (fun x=>cu x) ?_ gn)
        intro Yt236 hqt236
        simp only[nn]
        refine gr (rs:= [23]) (Ar 23 (some 38) rfl rfl (by kernel_rfl) (Da rfl rfl rfl rfl rfl rfl rfl rfl rfl rfl) (Nat.succ_pos _) hqt236 (fun _ hZ=>cu hZ) ?_ gn)
        intro Yt237 Bt237 hEt237 hqt237
        clear hEt237
        simp only[nn]
        refine gr (rs:= [24]) (gcW 24 (some 39) rfl rfl (cu hqt237) (Dc Bt237 9 [Aq h.l.length Ag,0,Ai vs.length,Ai ns.length,Af vs,Af [Ag],Bw ns,Ay h.l.length vs,Ay h.l.length [Ag]] _ (hqt237.hold 5 rfl) (by simp)) ?_ gn)
        refine gp 25 (some 12) (.int .i64 (orE [Aq h.l.length Ag,0,Ai vs.length,Ai ns.length,Af vs,Af [Ag],Bw ns,Ay h.l.length vs,Ay h.l.length [Ag]])) rfl rfl (cu hqt237) ?_
        refine wpAnyH_done (by kernel_rfl) ?_ _
        try simp only[nn]
        exact pN ⟨_,_,_,rfl,cu hqt237⟩
      ·intro Yt239 Bt239 hEt239 hqt239
       clear hEt239
       simp only[nn]
       refine gr (rs:= [8]) (gcW 8 (some 23) rfl rfl (cu hqt239) (Eg NB ns.length nc _) ?_ gn)
       simp only[nn]
       refine gr (rs:= [10]) (gcB 10 (some 25) rfl rfl hqt239 (Aw B c vs _ (hT.fr hqt239.fr H.low).1 (HRV hqt239.fr) hz1) (fun x=>cu x) ?_ gn)
       intro Yt241 hqt241
       simp only[nn]
       refine gr (rs:= [13]) (gcB 13 (some 28) rfl rfl hqt241 (Aw (some ⟨Bt239,0,none⟩) 1 [Ag] _ (hT.fr hqt241.fr H.low).1 (Ah (hqt241.hold 4 rfl)) (by simp)) (fun x=>cu x) ?_ gn)
       intro Yt242 hqt242
       simp only[nn]
       refine gr (rs:= [15]) (gcB 15 (some 30) rfl rfl hqt242 (Db NB nc ns _ (hT.fr hqt242.fr H.low).1 (HRN hqt242.fr) hz2) (fun x=>cu x) ?_ gn)
       intro Yt243 hqt243
       simp only[nn]
       refine gr (rs:= [18]) (gcB 18 (some 33) rfl rfl hqt243 (Ak h B c vs _ (hqt243.hp 0 rfl) (hT.fr hqt243.fr H.low).1 (HRV hqt243.fr) hz1) (fun x=>cu x) ?_ gn)
       intro Yt244 hqt244
       simp only[nn]
       refine gr (rs:= [22]) (gcB 22 (some 37) rfl rfl hqt244 (Ak h (some ⟨Bt220,0,none⟩) 1 [Ag] _ (hqt244.hp 0 rfl) (hT.fr hqt244.fr H.low).1 (Ah (hqt244.hold 3 rfl)) (by simp)) (fun x=>cu x) ?_ gn)
       intro Yt245 hqt245
       simp only[nn]
       refine gr (rs:= [23]) (Ar 23 (some 38) rfl rfl (by kernel_rfl) (Da rfl rfl rfl rfl rfl rfl rfl rfl rfl rfl) (Nat.succ_pos _) hqt245 (fun _ hZ=>cu hZ) ?_ gn)
       intro Yt246 Bt246 hEt246 hqt246
       clear hEt246
       simp only[nn]
       refine gr (rs:= [24]) (gcW 24 (some 39) rfl rfl (cu hqt246) (Dc Bt246 9 [Aq h.l.length Ag,0,Ai vs.length,Ai ns.length,Af vs,Af [Ag],Bw ns,Ay h.l.length vs,Ay h.l.length [Ag]] _ (hqt246.hold 5 rfl) (by simp)) ?_ gn)
       refine gp 25 (some 12) (.int .i64 (orE [Aq h.l.length Ag,0,Ai vs.length,Ai ns.length,Af vs,Af [Ag],Bw ns,Ay h.l.length vs,Ay h.l.length [Ag]])) rfl rfl (cu hqt246) ?_
       refine wpAnyH_done (by kernel_rfl) ?_ _
       try simp only[nn]
       exact pN ⟨_,_,_,rfl,cu hqt246⟩
     ·intro Yt248 Bt248 hEt248 hqt248
      clear hEt248
      simp only[nn]
      refine gr (rs:= [6]) (gcW 6 (some 21) rfl rfl (cu hqt248) (Gk B vs.length c _) ?_ gn)
      simp only[nn]
      refine gr (rs:= [8]) (gcW 8 (some 23) rfl rfl (cu hqt248) (Eg NB ns.length nc _) ?_ gn)
      simp only[nn]
      refine gr (rs:= [10]) (gcB 10 (some 25) rfl rfl hqt248 (Aw B c vs _ (hT.fr hqt248.fr H.low).1 (HRV hqt248.fr) hz1) (fun x=>cu x) ?_ gn)
      intro Yt251 hqt251
      simp only[nn]
      refine gr (rs:= [13]) (gcB 13 (some 28) rfl rfl hqt251 (Aw (some ⟨Bt248,0,none⟩) 1 [Ag] _ (hT.fr hqt251.fr H.low).1 (Ah (hqt251.hold 4 rfl)) (by simp)) (fun x=>cu x) ?_ gn)
      intro Yt252 hqt252
      simp only[nn]
      refine gr (rs:= [15]) (gcB 15 (some 30) rfl rfl hqt252 (Db NB nc ns _ (hT.fr hqt252.fr H.low).1 (HRN hqt252.fr) hz2) (fun x=>cu x) ?_ gn)
      intro Yt253 hqt253
      simp only[nn]
      refine gr (rs:= [18]) (gcB 18 (some 33) rfl rfl hqt253 (Ak h B c vs _ (hqt253.hp 0 rfl) (hT.fr hqt253.fr H.low).1 (HRV hqt253.fr) hz1) (fun x=>cu x) ?_ gn)
      intro Yt254 hqt254
      simp only[nn]
      refine gr (rs:= [22]) (gcB 22 (some 37) rfl rfl hqt254 (Ak h (some ⟨Bt220,0,none⟩) 1 [Ag] _ (hqt254.hp 0 rfl) (hT.fr hqt254.fr H.low).1 (Ah (hqt254.hold 3 rfl)) (by simp)) (fun x=>cu x) ?_ gn)
      intro Yt255 hqt255
      simp only[nn]
      refine gr (rs:= [23]) (Ar 23 (some 38) rfl rfl (by kernel_rfl) (Da rfl rfl rfl rfl rfl rfl rfl rfl rfl rfl) (Nat.succ_pos _) hqt255 (fun _ hZ=>cu hZ) ?_ gn)
      intro Yt256 Bt256 hEt256 hqt256
      clear hEt256
      simp only[nn]
      refine gr (rs:= [24]) (gcW 24 (some 39) rfl rfl (cu hqt256) (Dc Bt256 9 [Aq h.l.length Ag,0,Ai vs.length,Ai ns.length,Af vs,Af [Ag],Bw ns,Ay h.l.length vs,Ay h.l.length [Ag]] _ (hqt256.hold 5 rfl) (by simp)) ?_ gn)
      refine gp 25 (some 12) (.int .i64 (orE [Aq h.l.length Ag,0,Ai vs.length,Ai ns.length,Af vs,Af [Ag],Bw ns,Ay h.l.length vs,Ay h.l.length [Ag]])) rfl rfl (cu hqt256) ?_
      refine wpAnyH_done (by kernel_rfl) ?_ _
      try simp only[nn]
      exact pN ⟨_,_,_,rfl,cu hqt256⟩
   ·intro Yt258 Bt258 hEt258 hqt258
    clear hEt258
    simp only[nn]
    refine gr (rs:= [4,21]) (gcB 4 (some 19) rfl rfl hqt258 (Eo _) (fun x=>cu x) ?_ (Ar 21 (some 36) rfl rfl (by kernel_rfl) (Bi rfl rfl) (Nat.succ_pos _) hqt258 (fun _ hZ=>cu hZ) ?_ gn))
    ·intro Yt259 hqt259
     simp only[nn]
     refine gr (rs:= [6,21]) (gcW 6 (some 21) rfl rfl (cu hqt259) (Gk B vs.length c _) ?_ (Ar 21 (some 36) rfl rfl (by kernel_rfl) (Bi rfl rfl) (Nat.succ_pos _) hqt259 (fun _ hZ=>cu hZ) ?_ gn))
     ·simp only[nn]
      refine gr (rs:= [8,21]) (gcW 8 (some 23) rfl rfl (cu hqt259) (Eg NB ns.length nc _) ?_ (Ar 21 (some 36) rfl rfl (by kernel_rfl) (Bi rfl rfl) (Nat.succ_pos _) hqt259 (fun _ hZ=>cu hZ) ?_ gn))
      ·simp only[nn]
       refine gr (rs:= [10,21]) (gcB 10 (some 25) rfl rfl hqt259 (Aw B c vs _ (hT.fr hqt259.fr H.low).1 (HRV hqt259.fr) hz1) (fun x=>cu x) ?_ (Ar 21 (some 36) rfl rfl (by kernel_rfl) (Bi rfl rfl) (Nat.succ_pos _) hqt259 (fun _ hZ=>cu hZ) ?_ gn))
       ·intro Yt262 hqt262
        simp only[nn]
        refine gr (rs:= [13,21]) (gcB 13 (some 28) rfl rfl hqt262 (Aw (some ⟨Bt258,0,none⟩) 1 [Ag] _ (hT.fr hqt262.fr H.low).1 (Ah (hqt262.hold 3 rfl)) (by simp)) (fun x=>cu x) ?_ (Ar 21 (some 36) rfl rfl (by kernel_rfl) (Bi rfl rfl) (Nat.succ_pos _) hqt262 (fun _ hZ=>cu hZ) ?_ gn))
        ·intro Yt263 hqt263
         simp only[nn]
         refine gr (rs:= [15,21]) (gcB 15 (some 30) rfl rfl hqt263 (Db NB nc ns _ (hT.fr hqt263.fr H.low).1 (HRN hqt263.fr) hz2) (fun x=>cu x) ?_ (Ar 21 (some 36) rfl rfl (by kernel_rfl) (Bi rfl rfl) (Nat.succ_pos _) hqt263 (fun _ hZ=>cu hZ) ?_ gn))
         ·intro Yt264 hqt264
          simp only[nn]
          refine gr (rs:= [18,21]) (gcB 18 (some 33) rfl rfl hqt264 (Ak h B c vs _ (hqt264.hp 0 rfl) (hT.fr hqt264.fr H.low).1 (HRV hqt264.fr) hz1) (fun x=>cu x) ?_ (Ar 21 (some 36) rfl rfl (by kernel_rfl) (Bi rfl rfl) (Nat.succ_pos _) hqt264 (fun _ hZ=>cu hZ) ?_ gn))
          ·intro Yt265 hqt265
           simp only[nn]
           refine gr (rs:= [21]) (Ar 21 (some 36) rfl rfl (by kernel_rfl) (Bi rfl rfl) (Nat.succ_pos _) hqt265 (fun _ hZ=>cu hZ) ?_ gn)
           intro Yt266 Bt266 hEt266 hqt266
           clear hEt266
           simp only[nn]
           refine gr (rs:= [22]) (gcB 22 (some 37) rfl rfl hqt266 (Ak h (some ⟨Bt266,0,none⟩) 1 [Ag] _ (hqt266.hp 0 rfl) (hT.fr hqt266.fr H.low).1 (Ah (hqt266.hold 4 rfl)) (by simp)) (fun x=>cu x) ?_ gn)
           intro Yt267 hqt267
           simp only[nn]
           refine gr (rs:= [23]) (Ar 23 (some 38) rfl rfl (by kernel_rfl) (Da rfl rfl rfl rfl rfl rfl rfl rfl rfl rfl) (Nat.succ_pos _) hqt267 (fun _ hZ=>cu hZ) ?_ gn)
           intro Yt268 Bt268 hEt268 hqt268
           clear hEt268
           simp only[nn]
           refine gr (rs:= [24]) (gcW 24 (some 39) rfl rfl (cu hqt268) (Dc Bt268 9 [Aq h.l.length Ag,0,Ai vs.length,Ai ns.length,Af vs,Af [Ag],Bw ns,Ay h.l.length vs,Ay h.l.length [Ag]] _ (hqt268.hold 5 rfl) (by simp)) ?_ gn)
           refine gp 25 (some 12) (.int .i64 (orE [Aq h.l.length Ag,0,Ai vs.length,Ai ns.length,Af vs,Af [Ag],Bw ns,Ay h.l.length vs,Ay h.l.length [Ag]])) rfl rfl (cu hqt268) ?_
           refine wpAnyH_done (by kernel_rfl) ?_ _
           try simp only[nn]
           exact pN ⟨_,_,_,rfl,cu hqt268⟩
          ·intro Yt270 Bt270 hEt270 hqt270
           clear hEt270
           simp only[nn]
           refine gr (rs:= [18]) (gcB 18 (some 33) rfl rfl hqt270 (Ak h B c vs _ (hqt270.hp 0 rfl) (hT.fr hqt270.fr H.low).1 (HRV hqt270.fr) hz1) (fun x=>cu x) ?_ gn)
           intro Yt271 hqt271
           simp only[nn]
           refine gr (rs:= [22]) (gcB 22 (some 37) rfl rfl hqt271 (Ak h (some ⟨Bt270,0,none⟩) 1 [Ag] _ (hqt271.hp 0 rfl) (hT.fr hqt271.fr H.low).1 (Ah (hqt271.hold 4 rfl)) (by simp)) (fun x=>cu x) ?_ gn)
           intro Yt272 hqt272
           simp only[nn]
           refine gr (rs:= [23]) (Ar 23 (some 38) rfl rfl (by kernel_rfl) (Da rfl rfl rfl rfl rfl rfl rfl rfl rfl rfl) (Nat.succ_pos _) hqt272 (fun _ hZ=>cu hZ) ?_ gn)
           intro Yt273 Bt273 hEt273 hqt273
           clear hEt273
           simp only[nn]
           refine gr (rs:= [24]) (gcW 24 (some 39) rfl rfl (cu hqt273) (Dc Bt273 9 [Aq h.l.length Ag,0,Ai vs.length,Ai ns.length,Af vs,Af [Ag],Bw ns,Ay h.l.length vs,Ay h.l.length [Ag]] _ (hqt273.hold 5 rfl) (by simp)) ?_ gn)
           refine gp 25 (some 12) (.int .i64 (orE [Aq h.l.length Ag,0,Ai vs.length,Ai ns.length,Af vs,Af [Ag],Bw ns,Ay h.l.length vs,Ay h.l.length [Ag]])) rfl rfl (cu hqt273) ?_
           refine wpAnyH_done (by kernel_rfl) ?_ _
           try simp only[nn]
           exact pN ⟨_,_,_,rfl,cu hqt273⟩
         ·intro Yt275 Bt275 hEt275 hqt275
          clear hEt275
          simp only[nn]
          refine gr (rs:= [15]) (gcB 15 (some 30) rfl rfl hqt275 (Db NB nc ns _ (hT.fr hqt275.fr H.low).1 (HRN hqt275.fr) hz2) (fun x=>cu x) ?_ gn)
          intro Yt276 hqt276
          simp only[nn]
          refine gr (rs:= [18]) (gcB 18 (some 33) rfl rfl hqt276 (Ak h B c vs _ (hqt276.hp 0 rfl) (hT.fr hqt276.fr H.low).1 (HRV hqt276.fr) hz1) (fun x=>cu x) ?_ gn)
          intro Yt277 hqt277
          simp only[nn]
          refine gr (rs:= [22]) (gcB 22 (some 37) rfl rfl hqt277 (Ak h (some ⟨Bt275,0,none⟩) 1 [Ag] _ (hqt277.hp 0 rfl) (hT.fr hqt277.fr H.low).1 (Ah (hqt277.hold 4 rfl)) (by simp)) (fun x=>cu x) ?_ gn)
          intro Yt278 hqt278
          simp only[nn]
          refine gr (rs:= [23]) (Ar 23 (some 38) rfl rfl (by kernel_rfl) (Da rfl rfl rfl rfl rfl rfl rfl rfl rfl rfl) (Nat.succ_pos _) hqt278 (fun _ hZ=>cu hZ) ?_ gn)
          intro Yt279 Bt279 hEt279 hqt279
          clear hEt279
          simp only[nn]
          refine gr (rs:= [24]) (gcW 24 (some 39) rfl rfl (cu hqt279) (Dc Bt279 9 [Aq h.l.length Ag,0,Ai vs.length,Ai ns.length,Af vs,Af [Ag],Bw ns,Ay h.l.length vs,Ay h.l.length [Ag]] _ (hqt279.hold 5 rfl) (by simp)) ?_ gn)
          refine gp 25 (some 12) (.int .i64 (orE [Aq h.l.length Ag,0,Ai vs.length,Ai ns.length,Af vs,Af [Ag],Bw ns,Ay h.l.length vs,Ay h.l.length [Ag]])) rfl rfl (cu hqt279) ?_
          refine wpAnyH_done (by kernel_rfl) ?_ _
          try simp only[nn]
          exact pN ⟨_,_,_,rfl,cu hqt279⟩
        ·intro Yt281 Bt281 hEt281 hqt281
         clear hEt281
         simp only[nn]
         refine gr (rs:= [13]) (gcB 13 (some 28) rfl rfl hqt281 (Aw (some ⟨Bt258,0,none⟩) 1 [Ag] _ (hT.fr hqt281.fr H.low).1 (Ah (hqt281.hold 3 rfl)) (by simp)) (fun x=>cu x) ?_ gn)
         intro Yt282 hqt282
         simp only[nn]
         refine gr (rs:= [15]) (gcB 15 (some 30) rfl rfl hqt282 (Db NB nc ns _ (hT.fr hqt282.fr H.low).1 (HRN hqt282.fr) hz2) (fun x=>cu x) ?_ gn)
         intro Yt283 hqt283
         simp only[nn]
         refine gr (rs:= [18]) (gcB 18 (some 33) rfl rfl hqt283 (Ak h B c vs _ (hqt283.hp 0 rfl) (hT.fr hqt283.fr H.low).1 (HRV hqt283.fr) hz1) (fun x=>cu x) ?_ gn)
         intro Yt284 hqt284
         simp only[nn]
         refine gr (rs:= [22]) (gcB 22 (some 37) rfl rfl hqt284 (Ak h (some ⟨Bt281,0,none⟩) 1 [Ag] _ (hqt284.hp 0 rfl) (hT.fr hqt284.fr H.low).1 (Ah (hqt284.hold 4 rfl)) (by simp)) (fun x=>cu x) ?_ gn)
         intro Yt285 hqt285
         simp only[nn]
         refine gr (rs:= [23]) (Ar 23 (some 38) rfl rfl (by kernel_rfl) (Da rfl rfl rfl rfl rfl rfl rfl rfl rfl rfl) (Nat.succ_pos _) hqt285 (fun _ hZ=>cu hZ) ?_ gn)
         intro Yt286 Bt286 hEt286 hqt286
         clear hEt286
         simp only[nn]
         refine gr (rs:= [24]) (gcW 24 (some 39) rfl rfl (cu hqt286) (Dc Bt286 9 [Aq h.l.length Ag,0,Ai vs.length,Ai ns.length,Af vs,Af [Ag],Bw ns,Ay h.l.length vs,Ay h.l.length [Ag]] _ (hqt286.hold 5 rfl) (by simp)) ?_ gn)
         refine gp 25 (some 12) (.int .i64 (orE [Aq h.l.length Ag,0,Ai vs.length,Ai ns.length,Af vs,Af [Ag],Bw ns,Ay h.l.length vs,Ay h.l.length [Ag]])) rfl rfl (cu hqt286) ?_
         refine wpAnyH_done (by kernel_rfl) ?_ _
         try simp only[nn]
         exact pN ⟨_,_,_,rfl,cu hqt286⟩
       ·intro Yt288 Bt288 hEt288 hqt288
        clear hEt288
        simp only[nn]
        refine gr (rs:= [10]) (gcB 10 (some 25) rfl rfl hqt288 (Aw B c vs _ (hT.fr hqt288.fr H.low).1 (HRV hqt288.fr) hz1) (fun x=>cu x) ?_ gn)
        intro Yt289 hqt289
        simp only[nn]
        refine gr (rs:= [13]) (gcB 13 (some 28) rfl rfl hqt289 (Aw (some ⟨Bt258,0,none⟩) 1 [Ag] _ (hT.fr hqt289.fr H.low).1 (Ah (hqt289.hold 3 rfl)) (by simp)) (fun x=>cu x) ?_ gn)
        intro Yt290 hqt290
        simp only[nn]
        refine gr (rs:= [15]) (gcB 15 (some 30) rfl rfl hqt290 (Db NB nc ns _ (hT.fr hqt290.fr H.low).1 (HRN hqt290.fr) hz2) (fun x=>cu x) ?_ gn)
        intro Yt291 hqt291
        simp only[nn]
        refine gr (rs:= [18]) (gcB 18 (some 33) rfl rfl hqt291 (Ak h B c vs _ (hqt291.hp 0 rfl) (hT.fr hqt291.fr H.low).1 (HRV hqt291.fr) hz1) (fun x=>cu x) ?_ gn)
        intro Yt292 hqt292
        simp only[nn]
        refine gr (rs:= [22]) (gcB 22 (some 37) rfl rfl hqt292 (Ak h (some ⟨Bt288,0,none⟩) 1 [Ag] _ (hqt292.hp 0 rfl) (hT.fr hqt292.fr H.low).1 (Ah (hqt292.hold 4 rfl)) (by simp)) (fun x=>cu x) ?_ gn)
        intro Yt293 hqt293
        simp only[nn]
        refine gr (rs:= [23]) (Ar 23 (some 38) rfl rfl (by kernel_rfl) (Da rfl rfl rfl rfl rfl rfl rfl rfl rfl rfl) (Nat.succ_pos _) hqt293 (fun _ hZ=>cu hZ) ?_ gn)
        intro Yt294 Bt294 hEt294 hqt294
        clear hEt294
        simp only[nn]
        refine gr (rs:= [24]) (gcW 24 (some 39) rfl rfl (cu hqt294) (Dc Bt294 9 [Aq h.l.length Ag,0,Ai vs.length,Ai ns.length,Af vs,Af [Ag],Bw ns,Ay h.l.length vs,Ay h.l.length [Ag]] _ (hqt294.hold 5 rfl) (by simp)) ?_ gn)
        refine gp 25 (some 12) (.int .i64 (orE [Aq h.l.length Ag,0,Ai vs.length,Ai ns.length,Af vs,Af [Ag],Bw ns,Ay h.l.length vs,Ay h.l.length [Ag]])) rfl rfl (cu hqt294) ?_
        refine wpAnyH_done (by kernel_rfl) ?_ _
        try simp only[nn]
        exact pN ⟨_,_,_,rfl,cu hqt294⟩
      ·intro Yt296 Bt296 hEt296 hqt296
       clear hEt296
       simp only[nn]
       refine gr (rs:= [8]) (gcW 8 (some 23) rfl rfl (cu hqt296) (Eg NB ns.length nc _) ?_ gn)
       simp only[nn]
       refine gr (rs:= [10]) (gcB 10 (some 25) rfl rfl hqt296 (Aw B c vs _ (hT.fr hqt296.fr H.low).1 (HRV hqt296.fr) hz1) (fun x=>cu x) ?_ gn)
       intro Yt298 hqt298
       simp only[nn]
       refine gr (rs:= [13]) (gcB 13 (some 28) rfl rfl hqt298 (Aw (some ⟨Bt258,0,none⟩) 1 [Ag] _ (hT.fr hqt298.fr H.low).1 (Ah (hqt298.hold 3 rfl)) (by simp)) (fun x=>cu x) ?_ gn)
       intro Yt299 hqt299
       simp only[nn]
       refine gr (rs:= [15]) (gcB 15 (some 30) rfl rfl hqt299 (Db NB nc ns _ (hT.fr hqt299.fr H.low).1 (HRN hqt299.fr) hz2) (fun x=>cu x) ?_ gn)
       intro Yt300 hqt300
       simp only[nn]
       refine gr (rs:= [18]) (gcB 18 (some 33) rfl rfl hqt300 (Ak h B c vs _ (hqt300.hp 0 rfl) (hT.fr hqt300.fr H.low).1 (HRV hqt300.fr) hz1) (fun x=>cu x) ?_ gn)
       intro Yt301 hqt301
       simp only[nn]
       refine gr (rs:= [22]) (gcB 22 (some 37) rfl rfl hqt301 (Ak h (some ⟨Bt296,0,none⟩) 1 [Ag] _ (hqt301.hp 0 rfl) (hT.fr hqt301.fr H.low).1 (Ah (hqt301.hold 4 rfl)) (by simp)) (fun x=>cu x) ?_ gn)
       intro Yt302 hqt302
       simp only[nn]
       refine gr (rs:= [23]) (Ar 23 (some 38) rfl rfl (by kernel_rfl) (Da rfl rfl rfl rfl rfl rfl rfl rfl rfl rfl) (Nat.succ_pos _) hqt302 (fun _ hZ=>cu hZ) ?_ gn)
       intro Yt303 Bt303 hEt303 hqt303
       clear hEt303
       simp only[nn]
       refine gr (rs:= [24]) (gcW 24 (some 39) rfl rfl (cu hqt303) (Dc Bt303 9 [Aq h.l.length Ag,0,Ai vs.length,Ai ns.length,Af vs,Af [Ag],Bw ns,Ay h.l.length vs,Ay h.l.length [Ag]] _ (hqt303.hold 5 rfl) (by simp)) ?_ gn)
       refine gp 25 (some 12) (.int .i64 (orE [Aq h.l.length Ag,0,Ai vs.length,Ai ns.length,Af vs,Af [Ag],Bw ns,Ay h.l.length vs,Ay h.l.length [Ag]])) rfl rfl (cu hqt303) ?_
       refine wpAnyH_done (by kernel_rfl) ?_ _
       try simp only[nn]
       exact pN ⟨_,_,_,rfl,cu hqt303⟩
     ·intro Yt305 Bt305 hEt305 hqt305
      clear hEt305
      simp only[nn]
      refine gr (rs:= [6]) (gcW 6 (some 21) rfl rfl (cu hqt305) (Gk B vs.length c _) ?_ gn)
      simp only[nn]
      refine gr (rs:= [8]) (gcW 8 (some 23) rfl rfl (cu hqt305) (Eg NB ns.length nc _) ?_ gn)
      simp only[nn]
      refine gr (rs:= [10]) (gcB 10 (some 25) rfl rfl hqt305 (Aw B c vs _ (hT.fr hqt305.fr H.low).1 (HRV hqt305.fr) hz1) (fun x=>cu x) ?_ gn)
      intro Yt308 hqt308
      simp only[nn]
      refine gr (rs:= [13]) (gcB 13 (some 28) rfl rfl hqt308 (Aw (some ⟨Bt258,0,none⟩) 1 [Ag] _ (hT.fr hqt308.fr H.low).1 (Ah (hqt308.hold 3 rfl)) (by simp)) (fun x=>cu x) ?_ gn)
      intro Yt309 hqt309
      simp only[nn]
      refine gr (rs:= [15]) (gcB 15 (some 30) rfl rfl hqt309 (Db NB nc ns _ (hT.fr hqt309.fr H.low).1 (HRN hqt309.fr) hz2) (fun x=>cu x) ?_ gn)
      intro Yt310 hqt310
      simp only[nn]
      refine gr (rs:= [18]) (gcB 18 (some 33) rfl rfl hqt310 (Ak h B c vs _ (hqt310.hp 0 rfl) (hT.fr hqt310.fr H.low).1 (HRV hqt310.fr) hz1) (fun x=>cu x) ?_ gn)
      intro Yt311 hqt311
      simp only[nn]
      refine gr (rs:= [22]) (gcB 22 (some 37) rfl rfl hqt311 (Ak h (some ⟨Bt305,0,none⟩) 1 [Ag] _ (hqt311.hp 0 rfl) (hT.fr hqt311.fr H.low).1 (Ah (hqt311.hold 4 rfl)) (by simp)) (fun x=>cu x) ?_ gn)
      intro Yt312 hqt312
      simp only[nn]
      refine gr (rs:= [23]) (Ar 23 (some 38) rfl rfl (by kernel_rfl) (Da rfl rfl rfl rfl rfl rfl rfl rfl rfl rfl) (Nat.succ_pos _) hqt312 (fun _ hZ=>cu hZ) ?_ gn)
      intro Yt313 Bt313 hEt313 hqt313
      clear hEt313
      simp only[nn]
      refine gr (rs:= [24]) (gcW 24 (some 39) rfl rfl (cu hqt313) (Dc Bt313 9 [Aq h.l.length Ag,0,Ai vs.length,Ai ns.length,Af vs,Af [Ag],Bw ns,Ay h.l.length vs,Ay h.l.length [Ag]] _ (hqt313.hold 5 rfl) (by simp)) ?_ gn)
      refine gp 25 (some 12) (.int .i64 (orE [Aq h.l.length Ag,0,Ai vs.length,Ai ns.length,Af vs,Af [Ag],Bw ns,Ay h.l.length vs,Ay h.l.length [Ag]])) rfl rfl (cu hqt313) ?_
      refine wpAnyH_done (by kernel_rfl) ?_ _
      try simp only[nn]
      exact pN ⟨_,_,_,rfl,cu hqt313⟩
    ·intro Yt315 Bt315 hEt315 hqt315
     clear hEt315
     simp only[nn]
     refine gr (rs:= [4]) (gcB 4 (some 19) rfl rfl hqt315 (Eo _) (fun x=>cu x) ?_ gn)
     intro Yt316 hqt316
     simp only[nn]
     refine gr (rs:= [6]) (gcW 6 (some 21) rfl rfl (cu hqt316) (Gk B vs.length c _) ?_ gn)
     simp only[nn]
     refine gr (rs:= [8]) (gcW 8 (some 23) rfl rfl (cu hqt316) (Eg NB ns.length nc _) ?_ gn)
     simp only[nn]
     refine gr (rs:= [10]) (gcB 10 (some 25) rfl rfl hqt316 (Aw B c vs _ (hT.fr hqt316.fr H.low).1 (HRV hqt316.fr) hz1) (fun x=>cu x) ?_ gn)
     intro Yt319 hqt319
     simp only[nn]
     refine gr (rs:= [13]) (gcB 13 (some 28) rfl rfl hqt319 (Aw (some ⟨Bt258,0,none⟩) 1 [Ag] _ (hT.fr hqt319.fr H.low).1 (Ah (hqt319.hold 3 rfl)) (by simp)) (fun x=>cu x) ?_ gn)
     intro Yt320 hqt320
     simp only[nn]
     refine gr (rs:= [15]) (gcB 15 (some 30) rfl rfl hqt320 (Db NB nc ns _ (hT.fr hqt320.fr H.low).1 (HRN hqt320.fr) hz2) (fun x=>cu x) ?_ gn)
     intro Yt321 hqt321
     simp only[nn]
     refine gr (rs:= [18]) (gcB 18 (some 33) rfl rfl hqt321 (Ak h B c vs _ (hqt321.hp 0 rfl) (hT.fr hqt321.fr H.low).1 (HRV hqt321.fr) hz1) (fun x=>cu x) ?_ gn)
     intro Yt322 hqt322
     simp only[nn]
     refine gr (rs:= [22]) (gcB 22 (some 37) rfl rfl hqt322 (Ak h (some ⟨Bt315,0,none⟩) 1 [Ag] _ (hqt322.hp 0 rfl) (hT.fr hqt322.fr H.low).1 (Ah (hqt322.hold 4 rfl)) (by simp)) (fun x=>cu x) ?_ gn)
     intro Yt323 hqt323
     simp only[nn]
     refine gr (rs:= [23]) (Ar 23 (some 38) rfl rfl (by kernel_rfl) (Da rfl rfl rfl rfl rfl rfl rfl rfl rfl rfl) (Nat.succ_pos _) hqt323 (fun _ hZ=>cu hZ) ?_ gn)
     intro Yt324 Bt324 hEt324 hqt324
     clear hEt324
     simp only[nn]
     refine gr (rs:= [24]) (gcW 24 (some 39) rfl rfl (cu hqt324) (Dc Bt324 9 [Aq h.l.length Ag,0,Ai vs.length,Ai ns.length,Af vs,Af [Ag],Bw ns,Ay h.l.length vs,Ay h.l.length [Ag]] _ (hqt324.hold 5 rfl) (by simp)) ?_ gn)
     refine gp 25 (some 12) (.int .i64 (orE [Aq h.l.length Ag,0,Ai vs.length,Ai ns.length,Af vs,Af [Ag],Bw ns,Ay h.l.length vs,Ay h.l.length [Ag]])) rfl rfl (cu hqt324) ?_
     refine wpAnyH_done (by kernel_rfl) ?_ _
     try simp only[nn]
     exact pN ⟨_,_,_,rfl,cu hqt324⟩
   ·intro Yt326 Bt326 hEt326 hqt326
    clear hEt326
    simp only[nn]
    refine gr (rs:= [4,12]) (gcB 4 (some 19) rfl rfl hqt326 (Eo _) (fun x=>cu x) ?_ (Ar 12 (some 27) rfl rfl (by kernel_rfl) (Bi rfl rfl) (Nat.succ_pos _) hqt326 (fun _ hZ=>cu hZ) ?_ gn))
    ·intro Yt327 hqt327
     simp only[nn]
     refine gr (rs:= [6,12]) (gcW 6 (some 21) rfl rfl (cu hqt327) (Gk B vs.length c _) ?_ (Ar 12 (some 27) rfl rfl (by kernel_rfl) (Bi rfl rfl) (Nat.succ_pos _) hqt327 (fun _ hZ=>cu hZ) ?_ gn))
     ·simp only[nn]
      refine gr (rs:= [8,12]) (gcW 8 (some 23) rfl rfl (cu hqt327) (Eg NB ns.length nc _) ?_ (Ar 12 (some 27) rfl rfl (by kernel_rfl) (Bi rfl rfl) (Nat.succ_pos _) hqt327 (fun _ hZ=>cu hZ) ?_ gn))
      ·simp only[nn]
       refine gr (rs:= [10,12]) (gcB 10 (some 25) rfl rfl hqt327 (Aw B c vs _ (hT.fr hqt327.fr H.low).1 (HRV hqt327.fr) hz1) (fun x=>cu x) ?_ (Ar 12 (some 27) rfl rfl (by kernel_rfl) (Bi rfl rfl) (Nat.succ_pos _) hqt327 (fun _ hZ=>cu hZ) ?_ gn))
       ·intro Yt330 hqt330
        simp only[nn]
        refine gr (rs:= [12]) (Ar 12 (some 27) rfl rfl (by kernel_rfl) (Bi rfl rfl) (Nat.succ_pos _) hqt330 (fun _ hZ=>cu hZ) ?_ gn)
        intro Yt331 Bt331 hEt331 hqt331
        clear hEt331
        simp only[nn]
        refine gr (rs:= [13]) (gcB 13 (some 28) rfl rfl hqt331 (Aw (some ⟨Bt331,0,none⟩) 1 [Ag] _ (hT.fr hqt331.fr H.low).1 (Ah (hqt331.hold 4 rfl)) (by simp)) (fun x=>cu x) ?_ gn)
        intro Yt332 hqt332
        simp only[nn]
        refine gr (rs:= [15]) (gcB 15 (some 30) rfl rfl hqt332 (Db NB nc ns _ (hT.fr hqt332.fr H.low).1 (HRN hqt332.fr) hz2) (fun x=>cu x) ?_ gn)
        intro Yt333 hqt333
        simp only[nn]
        refine gr (rs:= [18]) (gcB 18 (some 33) rfl rfl hqt333 (Ak h B c vs _ (hqt333.hp 0 rfl) (hT.fr hqt333.fr H.low).1 (HRV hqt333.fr) hz1) (fun x=>cu x) ?_ gn)
        intro Yt334 hqt334
        simp only[nn]
        refine gr (rs:= [22]) (gcB 22 (some 37) rfl rfl hqt334 (Ak h (some ⟨Bt326,0,none⟩) 1 [Ag] _ (hqt334.hp 0 rfl) (hT.fr hqt334.fr H.low).1 (Ah (hqt334.hold 3 rfl)) (by simp)) (fun x=>cu x) ?_ gn)
        intro Yt335 hqt335
        simp only[nn]
        refine gr (rs:= [23]) (Ar 23 (some 38) rfl rfl (by kernel_rfl) (Da rfl rfl rfl rfl rfl rfl rfl rfl rfl rfl) (Nat.succ_pos _) hqt335 (fun _ hZ=>cu hZ) ?_ gn)
        intro Yt336 Bt336 hEt336 hqt336
        clear hEt336
        simp only[nn]
        refine gr (rs:= [24]) (gcW 24 (some 39) rfl rfl (cu hqt336) (Dc Bt336 9 [Aq h.l.length Ag,0,Ai vs.length,Ai ns.length,Af vs,Af [Ag],Bw ns,Ay h.l.length vs,Ay h.l.length [Ag]] _ (hqt336.hold 5 rfl) (by simp)) ?_ gn)
        refine gp 25 (some 12) (.int .i64 (orE [Aq h.l.length Ag,0,Ai vs.length,Ai ns.length,Af vs,Af [Ag],Bw ns,Ay h.l.length vs,Ay h.l.length [Ag]])) rfl rfl (cu hqt336) ?_
        refine wpAnyH_done (by kernel_rfl) ?_ _
        try simp only[nn]
        exact pN ⟨_,_,_,rfl,cu hqt336⟩
       ·intro Yt338 Bt338 hEt338 hqt338
        clear hEt338
        simp only[nn]
        refine gr (rs:= [10]) (gcB 10 (some 25) rfl rfl hqt338 (Aw B c vs _ (hT.fr hqt338.fr H.low).1 (HRV hqt338.fr) hz1) (fun x=>cu x) ?_ gn)
        intro Yt339 hqt339
        simp only[nn]
        refine gr (rs:= [13]) (gcB 13 (some 28) rfl rfl hqt339 (Aw (some ⟨Bt338,0,none⟩) 1 [Ag] _ (hT.fr hqt339.fr H.low).1 (Ah (hqt339.hold 4 rfl)) (by simp)) (fun x=>cu x) ?_ gn)
        intro Yt340 hqt340
        simp only[nn]
        refine gr (rs:= [15]) (gcB 15 (some 30) rfl rfl hqt340 (Db NB nc ns _ (hT.fr hqt340.fr H.low).1 (HRN hqt340.fr) hz2) (fun x=>cu x) ?_ gn)
        intro Yt341 hqt341
        simp only[nn]
        refine gr (rs:= [18]) (gcB 18 (some 33) rfl rfl hqt341 (Ak h B c vs _ (hqt341.hp 0 rfl) (hT.fr hqt341.fr H.low).1 (HRV hqt341.fr) hz1) (fun x=>cu x) ?_ gn)
        intro Yt342 hqt342
        simp only[nn]
        refine gr (rs:= [22]) (gcB 22 (some 37) rfl rfl hqt342 (Ak h (some ⟨Bt326,0,none⟩) 1 [Ag] _ (hqt342.hp 0 rfl) (hT.fr hqt342.fr H.low).1 (Ah (hqt342.hold 3 rfl)) (by simp)) (fun x=>cu x) ?_ gn)
        intro Yt343 hqt343
        simp only[nn]
        refine gr (rs:= [23]) (Ar 23 (some 38) rfl rfl (by kernel_rfl) (Da rfl rfl rfl rfl rfl rfl rfl rfl rfl rfl) (Nat.succ_pos _) hqt343 (fun _ hZ=>cu hZ) ?_ gn)
        intro Yt344 Bt344 hEt344 hqt344
        clear hEt344
        simp only[nn]
        refine gr (rs:= [24]) (gcW 24 (some 39) rfl rfl (cu hqt344) (Dc Bt344 9 [Aq h.l.length Ag,0,Ai vs.length,Ai ns.length,Af vs,Af [Ag],Bw ns,Ay h.l.length vs,Ay h.l.length [Ag]] _ (hqt344.hold 5 rfl) (by simp)) ?_ gn)
        refine gp 25 (some 12) (.int .i64 (orE [Aq h.l.length Ag,0,Ai vs.length,Ai ns.length,Af vs,Af [Ag],Bw ns,Ay h.l.length vs,Ay h.l.length [Ag]])) rfl rfl (cu hqt344) ?_
        refine wpAnyH_done (by kernel_rfl) ?_ _
        try simp only[nn]
        exact pN ⟨_,_,_,rfl,cu hqt344⟩
      ·intro Yt346 Bt346 hEt346 hqt346
       clear hEt346
       simp only[nn]
       refine gr (rs:= [8]) (gcW 8 (some 23) rfl rfl (cu hqt346) (Eg NB ns.length nc _) ?_ gn)
       simp only[nn]
       refine gr (rs:= [10]) (gcB 10 (some 25) rfl rfl hqt346 (Aw B c vs _ (hT.fr hqt346.fr H.low).1 (HRV hqt346.fr) hz1) (fun x=>cu x) ?_ gn)
       intro Yt348 hqt348
       simp only[nn]
       refine gr (rs:= [13]) (gcB 13 (some 28) rfl rfl hqt348 (Aw (some ⟨Bt346,0,none⟩) 1 [Ag] _ (hT.fr hqt348.fr H.low).1 (Ah (hqt348.hold 4 rfl)) (by simp)) (fun x=>cu x) ?_ gn)
       intro Yt349 hqt349
       simp only[nn]
       refine gr (rs:= [15]) (gcB 15 (some 30) rfl rfl hqt349 (Db NB nc ns _ (hT.fr hqt349.fr H.low).1 (HRN hqt349.fr) hz2) (fun x=>cu x) ?_ gn)
       intro Yt350 hqt350
       simp only[nn]
       refine gr (rs:= [18]) (gcB 18 (some 33) rfl rfl hqt350 (Ak h B c vs _ (hqt350.hp 0 rfl) (hT.fr hqt350.fr H.low).1 (HRV hqt350.fr) hz1) (fun x=>cu x) ?_ gn)
       intro Yt351 hqt351
       simp only[nn]
       refine gr (rs:= [22]) (gcB 22 (some 37) rfl rfl hqt351 (Ak h (some ⟨Bt326,0,none⟩) 1 [Ag] _ (hqt351.hp 0 rfl) (hT.fr hqt351.fr H.low).1 (Ah (hqt351.hold 3 rfl)) (by simp)) (fun x=>cu x) ?_ gn)
       intro Yt352 hqt352
       simp only[nn]
       refine gr (rs:= [23]) (Ar 23 (some 38) rfl rfl (by kernel_rfl) (Da rfl rfl rfl rfl rfl rfl rfl rfl rfl rfl) (Nat.succ_pos _) hqt352 (fun _ hZ=>cu hZ) ?_ gn)
       intro Yt353 Bt353 hEt353 hqt353
       clear hEt353
       simp only[nn]
       refine gr (rs:= [24]) (gcW 24 (some 39) rfl rfl (cu hqt353) (Dc Bt353 9 [Aq h.l.length Ag,0,Ai vs.length,Ai ns.length,Af vs,Af [Ag],Bw ns,Ay h.l.length vs,Ay h.l.length [Ag]] _ (hqt353.hold 5 rfl) (by simp)) ?_ gn)
       refine gp 25 (some 12) (.int .i64 (orE [Aq h.l.length Ag,0,Ai vs.length,Ai ns.length,Af vs,Af [Ag],Bw ns,Ay h.l.length vs,Ay h.l.length [Ag]])) rfl rfl (cu hqt353) ?_
       refine wpAnyH_done (by kernel_rfl) ?_ _
       try simp only[nn]
       exact pN ⟨_,_,_,rfl,cu hqt353⟩
     ·intro Yt355 Bt355 hEt355 hqt355
      clear hEt355
      simp only[nn]
      refine gr (rs:= [6]) (gcW 6 (some 21) rfl rfl (cu hqt355) (Gk B vs.length c _) ?_ gn)
      simp only[nn]
      refine gr (rs:= [8]) (gcW 8 (some 23) rfl rfl (cu hqt355) (Eg NB ns.length nc _) ?_ gn)
      simp only[nn]
      refine gr (rs:= [10]) (gcB 10 (some 25) rfl rfl hqt355 (Aw B c vs _ (hT.fr hqt355.fr H.low).1 (HRV hqt355.fr) hz1) (fun x=>cu x) ?_ gn)
      intro Yt358 hqt358
      simp only[nn]
      refine gr (rs:= [13]) (gcB 13 (some 28) rfl rfl hqt358 (Aw (some ⟨Bt355,0,none⟩) 1 [Ag] _ (hT.fr hqt358.fr H.low).1 (Ah (hqt358.hold 4 rfl)) (by simp)) (fun x=>cu x) ?_ gn)
      intro Yt359 hqt359
      simp only[nn]
      refine gr (rs:= [15]) (gcB 15 (some 30) rfl rfl hqt359 (Db NB nc ns _ (hT.fr hqt359.fr H.low).1 (HRN hqt359.fr) hz2) (fun x=>cu x) ?_ gn)
      intro Yt360 hqt360
      simp only[nn]
      refine gr (rs:= [18]) (gcB 18 (some 33) rfl rfl hqt360 (Ak h B c vs _ (hqt360.hp 0 rfl) (hT.fr hqt360.fr H.low).1 (HRV hqt360.fr) hz1) (fun x=>cu x) ?_ gn)
      intro Yt361 hqt361
      simp only[nn]
      refine gr (rs:= [22]) (gcB 22 (some 37) rfl rfl hqt361 (Ak h (some ⟨Bt326,0,none⟩) 1 [Ag] _ (hqt361.hp 0 rfl) (hT.fr hqt361.fr H.low).1 (Ah (hqt361.hold 3 rfl)) (by simp)) (fun x=>cu x) ?_ gn)
      intro Yt362 hqt362
      simp only[nn]
      refine gr (rs:= [23]) (Ar 23 (some 38) rfl rfl (by kernel_rfl) (Da rfl rfl rfl rfl rfl rfl rfl rfl rfl rfl) (Nat.succ_pos _) hqt362 (fun _ hZ=>cu hZ) ?_ gn)
      intro Yt363 Bt363 hEt363 hqt363
      clear hEt363
      simp only[nn]
      refine gr (rs:= [24]) (gcW 24 (some 39) rfl rfl (cu hqt363) (Dc Bt363 9 [Aq h.l.length Ag,0,Ai vs.length,Ai ns.length,Af vs,Af [Ag],Bw ns,Ay h.l.length vs,Ay h.l.length [Ag]] _ (hqt363.hold 5 rfl) (by simp)) ?_ gn)
      refine gp 25 (some 12) (.int .i64 (orE [Aq h.l.length Ag,0,Ai vs.length,Ai ns.length,Af vs,Af [Ag],Bw ns,Ay h.l.length vs,Ay h.l.length [Ag]])) rfl rfl (cu hqt363) ?_
      refine wpAnyH_done (by kernel_rfl) ?_ _
      try simp only[nn]
      exact pN ⟨_,_,_,rfl,cu hqt363⟩
    ·intro Yt365 Bt365 hEt365 hqt365
     clear hEt365
     simp only[nn]
     refine gr (rs:= [4]) (gcB 4 (some 19) rfl rfl hqt365 (Eo _) (fun x=>cu x) ?_ gn)
     intro Yt366 hqt366
     simp only[nn]
     refine gr (rs:= [6]) (gcW 6 (some 21) rfl rfl (cu hqt366) (Gk B vs.length c _) ?_ gn)
     simp only[nn]
     refine gr (rs:= [8]) (gcW 8 (some 23) rfl rfl (cu hqt366) (Eg NB ns.length nc _) ?_ gn)
     simp only[nn]
     refine gr (rs:= [10]) (gcB 10 (some 25) rfl rfl hqt366 (Aw B c vs _ (hT.fr hqt366.fr H.low).1 (HRV hqt366.fr) hz1) (fun x=>cu x) ?_ gn)
     intro Yt369 hqt369
     simp only[nn]
     refine gr (rs:= [13]) (gcB 13 (some 28) rfl rfl hqt369 (Aw (some ⟨Bt365,0,none⟩) 1 [Ag] _ (hT.fr hqt369.fr H.low).1 (Ah (hqt369.hold 4 rfl)) (by simp)) (fun x=>cu x) ?_ gn)
     intro Yt370 hqt370
     simp only[nn]
     refine gr (rs:= [15]) (gcB 15 (some 30) rfl rfl hqt370 (Db NB nc ns _ (hT.fr hqt370.fr H.low).1 (HRN hqt370.fr) hz2) (fun x=>cu x) ?_ gn)
     intro Yt371 hqt371
     simp only[nn]
     refine gr (rs:= [18]) (gcB 18 (some 33) rfl rfl hqt371 (Ak h B c vs _ (hqt371.hp 0 rfl) (hT.fr hqt371.fr H.low).1 (HRV hqt371.fr) hz1) (fun x=>cu x) ?_ gn)
     intro Yt372 hqt372
     simp only[nn]
     refine gr (rs:= [22]) (gcB 22 (some 37) rfl rfl hqt372 (Ak h (some ⟨Bt326,0,none⟩) 1 [Ag] _ (hqt372.hp 0 rfl) (hT.fr hqt372.fr H.low).1 (Ah (hqt372.hold 3 rfl)) (by simp)) (fun x=>cu x) ?_ gn)
     intro Yt373 hqt373
     simp only[nn]
     refine gr (rs:= [23]) (Ar 23 (some 38) rfl rfl (by kernel_rfl) (Da rfl rfl rfl rfl rfl rfl rfl rfl rfl rfl) (Nat.succ_pos _) hqt373 (fun _ hZ=>cu hZ) ?_ gn)
     intro Yt374 Bt374 hEt374 hqt374
     clear hEt374
     simp only[nn]
     refine gr (rs:= [24]) (gcW 24 (some 39) rfl rfl (cu hqt374) (Dc Bt374 9 [Aq h.l.length Ag,0,Ai vs.length,Ai ns.length,Af vs,Af [Ag],Bw ns,Ay h.l.length vs,Ay h.l.length [Ag]] _ (hqt374.hold 5 rfl) (by simp)) ?_ gn)
     refine gp 25 (some 12) (.int .i64 (orE [Aq h.l.length Ag,0,Ai vs.length,Ai ns.length,Af vs,Af [Ag],Bw ns,Ay h.l.length vs,Ay h.l.length [Ag]])) rfl rfl (cu hqt374) ?_
     refine wpAnyH_done (by kernel_rfl) ?_ _
     try simp only[nn]
     exact pN ⟨_,_,_,rfl,cu hqt374⟩
  ·intro Yt376 Bt376 hEt376 hqt376
   clear hEt376
   simp only[nn]
   refine gr (rs:= [2,21]) (gcB 2 (some 17) rfl rfl hqt376 (Jy h Ag _ (hqt376.hp 0 rfl) (hT.fr hqt376.fr H.low).1) (fun x=>cu x) ?_ (Ar 21 (some 36) rfl rfl (by kernel_rfl) (Bi rfl rfl) (Nat.succ_pos _) hqt376 (fun _ hZ=>cu hZ) ?_ gn))
   ·intro Yt377 hqt377
    simp only[nn]
    refine gr (rs:= [4,21]) (gcB 4 (some 19) rfl rfl hqt377 (Eo _) (fun x=>cu x) ?_ (Ar 21 (some 36) rfl rfl (by kernel_rfl) (Bi rfl rfl) (Nat.succ_pos _) hqt377 (fun _ hZ=>cu hZ) ?_ gn))
    ·intro Yt378 hqt378
     simp only[nn]
     refine gr (rs:= [6,21]) (gcW 6 (some 21) rfl rfl (cu hqt378) (Gk B vs.length c _) ?_ (Ar 21 (some 36) rfl rfl (by kernel_rfl) (Bi rfl rfl) (Nat.succ_pos _) hqt378 (fun _ hZ=>cu hZ) ?_ gn))
     ·simp only[nn]
      refine gr (rs:= [8,21]) (gcW 8 (some 23) rfl rfl (cu hqt378) (Eg NB ns.length nc _) ?_ (Ar 21 (some 36) rfl rfl (by kernel_rfl) (Bi rfl rfl) (Nat.succ_pos _) hqt378 (fun _ hZ=>cu hZ) ?_ gn))
      ·simp only[nn]
       refine gr (rs:= [10,21]) (gcB 10 (some 25) rfl rfl hqt378 (Aw B c vs _ (hT.fr hqt378.fr H.low).1 (HRV hqt378.fr) hz1) (fun x=>cu x) ?_ (Ar 21 (some 36) rfl rfl (by kernel_rfl) (Bi rfl rfl) (Nat.succ_pos _) hqt378 (fun _ hZ=>cu hZ) ?_ gn))
       ·intro Yt381 hqt381
        simp only[nn]
        refine gr (rs:= [13,21]) (gcB 13 (some 28) rfl rfl hqt381 (Aw (some ⟨Bt376,0,none⟩) 1 [Ag] _ (hT.fr hqt381.fr H.low).1 (Ah (hqt381.hold 3 rfl)) (by simp)) (fun x=>cu x) ?_ (Ar 21 (some 36) rfl rfl (by kernel_rfl) (Bi rfl rfl) (Nat.succ_pos _) hqt381 (fun _ hZ=>cu hZ) ?_ gn))
        ·intro Yt382 hqt382
         simp only[nn]
         refine gr (rs:= [15,21]) (gcB 15 (some 30) rfl rfl hqt382 (Db NB nc ns _ (hT.fr hqt382.fr H.low).1 (HRN hqt382.fr) hz2) (fun x=>cu x) ?_ (Ar 21 (some 36) rfl rfl (by kernel_rfl) (Bi rfl rfl) (Nat.succ_pos _) hqt382 (fun _ hZ=>cu hZ) ?_ gn))
         ·intro Yt383 hqt383
          simp only[nn]
          refine gr (rs:= [18,21]) (gcB 18 (some 33) rfl rfl hqt383 (Ak h B c vs _ (hqt383.hp 0 rfl) (hT.fr hqt383.fr H.low).1 (HRV hqt383.fr) hz1) (fun x=>cu x) ?_ (Ar 21 (some 36) rfl rfl (by kernel_rfl) (Bi rfl rfl) (Nat.succ_pos _) hqt383 (fun _ hZ=>cu hZ) ?_ gn))
          ·intro Yt384 hqt384
           simp only[nn]
           refine gr (rs:= [21]) (Ar 21 (some 36) rfl rfl (by kernel_rfl) (Bi rfl rfl) (Nat.succ_pos _) hqt384 (fun _ hZ=>cu hZ) ?_ gn)
           intro Yt385 Bt385 hEt385 hqt385
           clear hEt385
           simp only[nn]
           refine gr (rs:= [22]) (gcB 22 (some 37) rfl rfl hqt385 (Ak h (some ⟨Bt385,0,none⟩) 1 [Ag] _ (hqt385.hp 0 rfl) (hT.fr hqt385.fr H.low).1 (Ah (hqt385.hold 4 rfl)) (by simp)) (fun x=>cu x) ?_ gn)
           intro Yt386 hqt386
           simp only[nn]
           refine gr (rs:= [23]) (Ar 23 (some 38) rfl rfl (by kernel_rfl) (Da rfl rfl rfl rfl rfl rfl rfl rfl rfl rfl) (Nat.succ_pos _) hqt386 (fun _ hZ=>cu hZ) ?_ gn)
           intro Yt387 Bt387 hEt387 hqt387
           clear hEt387
           simp only[nn]
           refine gr (rs:= [24]) (gcW 24 (some 39) rfl rfl (cu hqt387) (Dc Bt387 9 [Aq h.l.length Ag,0,Ai vs.length,Ai ns.length,Af vs,Af [Ag],Bw ns,Ay h.l.length vs,Ay h.l.length [Ag]] _ (hqt387.hold 5 rfl) (by simp)) ?_ gn)
           refine gp 25 (some 12) (.int .i64 (orE [Aq h.l.length Ag,0,Ai vs.length,Ai ns.length,Af vs,Af [Ag],Bw ns,Ay h.l.length vs,Ay h.l.length [Ag]])) rfl rfl (cu hqt387) ?_
           refine wpAnyH_done (by kernel_rfl) ?_ _
           try simp only[nn]
           exact pN ⟨_,_,_,rfl,cu hqt387⟩
          ·intro Yt389 Bt389 hEt389 hqt389
           clear hEt389
           simp only[nn]
           refine gr (rs:= [18]) (gcB 18 (some 33) rfl rfl hqt389 (Ak h B c vs _ (hqt389.hp 0 rfl) (hT.fr hqt389.fr H.low).1 (HRV hqt389.fr) hz1) (fun x=>cu x) ?_ gn)
           intro Yt390 hqt390
           simp only[nn]
           refine gr (rs:= [22]) (gcB 22 (some 37) rfl rfl hqt390 (Ak h (some ⟨Bt389,0,none⟩) 1 [Ag] _ (hqt390.hp 0 rfl) (hT.fr hqt390.fr H.low).1 (Ah (hqt390.hold 4 rfl)) (by simp)) (fun x=>cu x) ?_ gn)
           intro Yt391 hqt391
           simp only[nn]
           refine gr (rs:= [23]) (Ar 23 (some 38) rfl rfl (by kernel_rfl) (Da rfl rfl rfl rfl rfl rfl rfl rfl rfl rfl) (Nat.succ_pos _) hqt391 (fun _ hZ=>cu hZ) ?_ gn)
           intro Yt392 Bt392 hEt392 hqt392
           clear hEt392
           simp only[nn]
           refine gr (rs:= [24]) (gcW 24 (some 39) rfl rfl (cu hqt392) (Dc Bt392 9 [Aq h.l.length Ag,0,Ai vs.length,Ai ns.length,Af vs,Af [Ag],Bw ns,Ay h.l.length vs,Ay h.l.length [Ag]] _ (hqt392.hold 5 rfl) (by simp)) ?_ gn)
           refine gp 25 (some 12) (.int .i64 (orE [Aq h.l.length Ag,0,Ai vs.length,Ai ns.length,Af vs,Af [Ag],Bw ns,Ay h.l.length vs,Ay h.l.length [Ag]])) rfl rfl (cu hqt392) ?_
           refine wpAnyH_done (by kernel_rfl) ?_ _
           try simp only[nn]
           exact pN ⟨_,_,_,rfl,cu hqt392⟩
         ·intro Yt394 Bt394 hEt394 hqt394
          clear hEt394
          simp only[nn]
          refine gr (rs:= [15]) (gcB 15 (some 30) rfl rfl hqt394 (Db NB nc ns _ (hT.fr hqt394.fr H.low).1 (HRN hqt394.fr) hz2) (fun x=>cu x) ?_ gn)
          intro Yt395 hqt395
          simp only[nn]
          refine gr (rs:= [18]) (gcB 18 (some 33) rfl rfl hqt395 (Ak h B c vs _ (hqt395.hp 0 rfl) (hT.fr hqt395.fr H.low).1 (HRV hqt395.fr) hz1) (fun x=>cu x) ?_ gn)
          intro Yt396 hqt396
          simp only[nn]
          refine gr (rs:= [22]) (gcB 22 (some 37) rfl rfl hqt396 (Ak h (some ⟨Bt394,0,none⟩) 1 [Ag] _ (hqt396.hp 0 rfl) (hT.fr hqt396.fr H.low).1 (Ah (hqt396.hold 4 rfl)) (by simp)) (fun x=>cu x) ?_ gn)
          intro Yt397 hqt397
          simp only[nn]
          refine gr (rs:= [23]) (Ar 23 (some 38) rfl rfl (by kernel_rfl) (Da rfl rfl rfl rfl rfl rfl rfl rfl rfl rfl) (Nat.succ_pos _) hqt397 (fun _ hZ=>cu hZ) ?_ gn)
          intro Yt398 Bt398 hEt398 hqt398
          clear hEt398
          simp only[nn]
          refine gr (rs:= [24]) (gcW 24 (some 39) rfl rfl (cu hqt398) (Dc Bt398 9 [Aq h.l.length Ag,0,Ai vs.length,Ai ns.length,Af vs,Af [Ag],Bw ns,Ay h.l.length vs,Ay h.l.length [Ag]] _ (hqt398.hold 5 rfl) (by simp)) ?_ gn)
          refine gp 25 (some 12) (.int .i64 (orE [Aq h.l.length Ag,0,Ai vs.length,Ai ns.length,Af vs,Af [Ag],Bw ns,Ay h.l.length vs,Ay h.l.length [Ag]])) rfl rfl (cu hqt398) ?_
          refine wpAnyH_done (by kernel_rfl) ?_ _
          try simp only[nn]
          exact pN ⟨_,_,_,rfl,cu hqt398⟩
        ·intro Yt400 Bt400 hEt400 hqt400
         clear hEt400
         simp only[nn]
         refine gr (rs:= [13]) (gcB 13 (some 28) rfl rfl hqt400 (Aw (some ⟨Bt376,0,none⟩) 1 [Ag] _ (hT.fr hqt400.fr H.low).1 (Ah (hqt400.hold 3 rfl)) (by simp)) (fun x=>cu x) ?_ gn)
         intro Yt401 hqt401
         simp only[nn]
         refine gr (rs:= [15]) (gcB 15 (some 30) rfl rfl hqt401 (Db NB nc ns _ (hT.fr hqt401.fr H.low).1 (HRN hqt401.fr) hz2) (fun x=>cu x) ?_ gn)
         intro Yt402 hqt402
         simp only[nn]
         refine gr (rs:= [18]) (gcB 18 (some 33) rfl rfl hqt402 (Ak h B c vs _ (hqt402.hp 0 rfl) (hT.fr hqt402.fr H.low).1 (HRV hqt402.fr) hz1) (fun x=>cu x) ?_ gn)
         intro Yt403 hqt403
         simp only[nn]
         refine gr (rs:= [22]) (gcB 22 (some 37) rfl rfl hqt403 (Ak h (some ⟨Bt400,0,none⟩) 1 [Ag] _ (hqt403.hp 0 rfl) (hT.fr hqt403.fr H.low).1 (Ah (hqt403.hold 4 rfl)) (by simp)) (fun x=>cu x) ?_ gn)
         intro Yt404 hqt404
         simp only[nn]
         refine gr (rs:= [23]) (Ar 23 (some 38) rfl rfl (by kernel_rfl) (Da rfl rfl rfl rfl rfl rfl rfl rfl rfl rfl) (Nat.succ_pos _) hqt404 (fun _ hZ=>cu hZ) ?_ gn)
         intro Yt405 Bt405 hEt405 hqt405
         clear hEt405
         simp only[nn]
         refine gr (rs:= [24]) (gcW 24 (some 39) rfl rfl (cu hqt405) (Dc Bt405 9 [Aq h.l.length Ag,0,Ai vs.length,Ai ns.length,Af vs,Af [Ag],Bw ns,Ay h.l.length vs,Ay h.l.length [Ag]] _ (hqt405.hold 5 rfl) (by simp)) ?_ gn)
         refine gp 25 (some 12) (.int .i64 (orE [Aq h.l.length Ag,0,Ai vs.length,Ai ns.length,Af vs,Af [Ag],Bw ns,Ay h.l.length vs,Ay h.l.length [Ag]])) rfl rfl (cu hqt405) ?_
         refine wpAnyH_done (by kernel_rfl) ?_ _
         try simp only[nn]
         exact pN ⟨_,_,_,rfl,cu hqt405⟩
       ·intro Yt407 Bt407 hEt407 hqt407
        clear hEt407
        simp only[nn]
        refine gr (rs:= [10]) (gcB 10 (some 25) rfl rfl hqt407 (Aw B c vs _ (hT.fr hqt407.fr H.low).1 (HRV hqt407.fr) hz1) (fun x=>cu x) ?_ gn)
        intro Yt408 hqt408
        simp only[nn]
        refine gr (rs:= [13]) (gcB 13 (some 28) rfl rfl hqt408 (Aw (some ⟨Bt376,0,none⟩) 1 [Ag] _ (hT.fr hqt408.fr H.low).1 (Ah (hqt408.hold 3 rfl)) (by simp)) (fun x=>cu x) ?_ gn)
        intro Yt409 hqt409
        simp only[nn]
        refine gr (rs:= [15]) (gcB 15 (some 30) rfl rfl hqt409 (Db NB nc ns _ (hT.fr hqt409.fr H.low).1 (HRN hqt409.fr) hz2) (fun x=>cu x) ?_ gn)
        intro Yt410 hqt410
        simp only[nn]
        refine gr (rs:= [18]) (gcB 18 (some 33) rfl rfl hqt410 (Ak h B c vs _ (hqt410.hp 0 rfl) (hT.fr hqt410.fr H.low).1 (HRV hqt410.fr) hz1) (fun x=>cu x) ?_ gn)
        intro Yt411 hqt411
        simp only[nn]
        refine gr (rs:= [22]) (gcB 22 (some 37) rfl rfl hqt411 (Ak h (some ⟨Bt407,0,none⟩) 1 [Ag] _ (hqt411.hp 0 rfl) (hT.fr hqt411.fr H.low).1 (Ah (hqt411.hold 4 rfl)) (by simp)) (fun x=>cu x) ?_ gn)
        intro Yt412 hqt412
        simp only[nn]
        refine gr (rs:= [23]) (Ar 23 (some 38) rfl rfl (by kernel_rfl) (Da rfl rfl rfl rfl rfl rfl rfl rfl rfl rfl) (Nat.succ_pos _) hqt412 (fun _ hZ=>cu hZ) ?_ gn)
        intro Yt413 Bt413 hEt413 hqt413
        clear hEt413
        simp only[nn]
        refine gr (rs:= [24]) (gcW 24 (some 39) rfl rfl (cu hqt413) (Dc Bt413 9 [Aq h.l.length Ag,0,Ai vs.length,Ai ns.length,Af vs,Af [Ag],Bw ns,Ay h.l.length vs,Ay h.l.length [Ag]] _ (hqt413.hold 5 rfl) (by simp)) ?_ gn)
        refine gp 25 (some 12) (.int .i64 (orE [Aq h.l.length Ag,0,Ai vs.length,Ai ns.length,Af vs,Af [Ag],Bw ns,Ay h.l.length vs,Ay h.l.length [Ag]])) rfl rfl (cu hqt413) ?_
        refine wpAnyH_done (by kernel_rfl) ?_ _
        try simp only[nn]
        exact pN ⟨_,_,_,rfl,cu hqt413⟩
      ·intro Yt415 Bt415 hEt415 hqt415
       clear hEt415
       simp only[nn]
       refine gr (rs:= [8]) (gcW 8 (some 23) rfl rfl (cu hqt415) (Eg NB ns.length nc _) ?_ gn)
       simp only[nn]
       refine gr (rs:= [10]) (gcB 10 (some 25) rfl rfl hqt415 (Aw B c vs _ (hT.fr hqt415.fr H.low).1 (HRV hqt415.fr) hz1) (fun x=>cu x) ?_ gn)
       intro Yt417 hqt417
       simp only[nn]
       refine gr (rs:= [13]) (gcB 13 (some 28) rfl rfl hqt417 (Aw (some ⟨Bt376,0,none⟩) 1 [Ag] _ (hT.fr hqt417.fr H.low).1 (Ah (hqt417.hold 3 rfl)) (by simp)) (fun x=>cu x) ?_ gn)
       intro Yt418 hqt418
       simp only[nn]
       refine gr (rs:= [15]) (gcB 15 (some 30) rfl rfl hqt418 (Db NB nc ns _ (hT.fr hqt418.fr H.low).1 (HRN hqt418.fr) hz2) (fun x=>cu x) ?_ gn)
       intro Yt419 hqt419
       simp only[nn]
       refine gr (rs:= [18]) (gcB 18 (some 33) rfl rfl hqt419 (Ak h B c vs _ (hqt419.hp 0 rfl) (hT.fr hqt419.fr H.low).1 (HRV hqt419.fr) hz1) (fun x=>cu x) ?_ gn)
       intro Yt420 hqt420
       simp only[nn]
       refine gr (rs:= [22]) (gcB 22 (some 37) rfl rfl hqt420 (Ak h (some ⟨Bt415,0,none⟩) 1 [Ag] _ (hqt420.hp 0 rfl) (hT.fr hqt420.fr H.low).1 (Ah (hqt420.hold 4 rfl)) (by simp)) (fun x=>cu x) ?_ gn)
       intro Yt421 hqt421
       simp only[nn]
       refine gr (rs:= [23]) (Ar 23 (some 38) rfl rfl (by kernel_rfl) (Da rfl rfl rfl rfl rfl rfl rfl rfl rfl rfl) (Nat.succ_pos _) hqt421 (fun _ hZ=>cu hZ) ?_ gn)
       intro Yt422 Bt422 hEt422 hqt422
       clear hEt422
       simp only[nn]
       refine gr (rs:= [24]) (gcW 24 (some 39) rfl rfl (cu hqt422) (Dc Bt422 9 [Aq h.l.length Ag,0,Ai vs.length,Ai ns.length,Af vs,Af [Ag],Bw ns,Ay h.l.length vs,Ay h.l.length [Ag]] _ (hqt422.hold 5 rfl) (by simp)) ?_ gn)
       refine gp 25 (some 12) (.int .i64 (orE [Aq h.l.length Ag,0,Ai vs.length,Ai ns.length,Af vs,Af [Ag],Bw ns,Ay h.l.length vs,Ay h.l.length [Ag]])) rfl rfl (cu hqt422) ?_
       refine wpAnyH_done (by kernel_rfl) ?_ _
       try simp only[nn]
       exact pN ⟨_,_,_,rfl,cu hqt422⟩
     ·intro Yt424 Bt424 hEt424 hqt424
      clear hEt424
      simp only[nn]
      refine gr (rs:= [6]) (gcW 6 (some 21) rfl rfl (cu hqt424) (Gk B vs.length c _) ?_ gn)
      simp only[nn]
      refine gr (rs:= [8]) (gcW 8 (some 23) rfl rfl (cu hqt424) (Eg NB ns.length nc _) ?_ gn)
      simp only[nn]
      refine gr (rs:= [10]) (gcB 10 (some 25) rfl rfl hqt424 (Aw B c vs _ (hT.fr hqt424.fr H.low).1 (HRV hqt424.fr) hz1) (fun x=>cu x) ?_ gn)
      intro Yt427 hqt427
      simp only[nn]
      refine gr (rs:= [13]) (gcB 13 (some 28) rfl rfl hqt427 (Aw (some ⟨Bt376,0,none⟩) 1 [Ag] _ (hT.fr hqt427.fr H.low).1 (Ah (hqt427.hold 3 rfl)) (by simp)) (fun x=>cu x) ?_ gn)
      intro Yt428 hqt428
      simp only[nn]
      refine gr (rs:= [15]) (gcB 15 (some 30) rfl rfl hqt428 (Db NB nc ns _ (hT.fr hqt428.fr H.low).1 (HRN hqt428.fr) hz2) (fun x=>cu x) ?_ gn)
      intro Yt429 hqt429
      simp only[nn]
      refine gr (rs:= [18]) (gcB 18 (some 33) rfl rfl hqt429 (Ak h B c vs _ (hqt429.hp 0 rfl) (hT.fr hqt429.fr H.low).1 (HRV hqt429.fr) hz1) (fun x=>cu x) ?_ gn)
      intro Yt430 hqt430
      simp only[nn]
      refine gr (rs:= [22]) (gcB 22 (some 37) rfl rfl hqt430 (Ak h (some ⟨Bt424,0,none⟩) 1 [Ag] _ (hqt430.hp 0 rfl) (hT.fr hqt430.fr H.low).1 (Ah (hqt430.hold 4 rfl)) (by simp)) (fun x=>cu x) ?_ gn)
      intro Yt431 hqt431
      simp only[nn]
      refine gr (rs:= [23]) (Ar 23 (some 38) rfl rfl (by kernel_rfl) (Da rfl rfl rfl rfl rfl rfl rfl rfl rfl rfl) (Nat.succ_pos _) hqt431 (fun _ hZ=>cu hZ) ?_ gn)
      intro Yt432 Bt432 hEt432 hqt432
      clear hEt432
      simp only[nn]
      refine gr (rs:= [24]) (gcW 24 (some 39) rfl rfl (cu hqt432) (Dc Bt432 9 [Aq h.l.length Ag,0,Ai vs.length,Ai ns.length,Af vs,Af [Ag],Bw ns,Ay h.l.length vs,Ay h.l.length [Ag]] _ (hqt432.hold 5 rfl) (by simp)) ?_ gn)
      refine gp 25 (some 12) (.int .i64 (orE [Aq h.l.length Ag,0,Ai vs.length,Ai ns.length,Af vs,Af [Ag],Bw ns,Ay h.l.length vs,Ay h.l.length [Ag]])) rfl rfl (cu hqt432) ?_
      refine wpAnyH_done (by kernel_rfl) ?_ _
      try simp only[nn]
      exact pN ⟨_,_,_,rfl,cu hqt432⟩
    ·intro Yt434 Bt434 hEt434 hqt434
     clear hEt434
     simp only[nn]
     refine gr (rs:= [4]) (gcB 4 (some 19) rfl rfl hqt434 (Eo _) (fun x=>cu x) ?_ gn)
     intro Yt435 hqt435
     simp only[nn]
     refine gr (rs:= [6]) (gcW 6 (some 21) rfl rfl (cu hqt435) (Gk B vs.length c _) ?_ gn)
     simp only[nn]
     refine gr (rs:= [8]) (gcW 8 (some 23) rfl rfl (cu hqt435) (Eg NB ns.length nc _) ?_ gn)
     simp only[nn]
     refine gr (rs:= [10]) (gcB 10 (some 25) rfl rfl hqt435 (Aw B c vs _ (hT.fr hqt435.fr H.low).1 (HRV hqt435.fr) hz1) (fun x=>cu x) ?_ gn)
     intro Yt438 hqt438
     simp only[nn]
     refine gr (rs:= [13]) (gcB 13 (some 28) rfl rfl hqt438 (Aw (some ⟨Bt376,0,none⟩) 1 [Ag] _ (hT.fr hqt438.fr H.low).1 (Ah (hqt438.hold 3 rfl)) (by simp)) (fun x=>cu x) ?_ gn)
     intro Yt439 hqt439
     simp only[nn]
     refine gr (rs:= [15]) (gcB 15 (some 30) rfl rfl hqt439 (Db NB nc ns _ (hT.fr hqt439.fr H.low).1 (HRN hqt439.fr) hz2) (fun x=>cu x) ?_ gn)
     intro Yt440 hqt440
     simp only[nn]
     refine gr (rs:= [18]) (gcB 18 (some 33) rfl rfl hqt440 (Ak h B c vs _ (hqt440.hp 0 rfl) (hT.fr hqt440.fr H.low).1 (HRV hqt440.fr) hz1) (fun x=>cu x) ?_ gn)
     intro Yt441 hqt441
     simp only[nn]
     refine gr (rs:= [22]) (gcB 22 (some 37) rfl rfl hqt441 (Ak h (some ⟨Bt434,0,none⟩) 1 [Ag] _ (hqt441.hp 0 rfl) (hT.fr hqt441.fr H.low).1 (Ah (hqt441.hold 4 rfl)) (by simp)) (fun x=>cu x) ?_ gn)
     intro Yt442 hqt442
     simp only[nn]
     refine gr (rs:= [23]) (Ar 23 (some 38) rfl rfl (by kernel_rfl) (Da rfl rfl rfl rfl rfl rfl rfl rfl rfl rfl) (Nat.succ_pos _) hqt442 (fun _ hZ=>cu hZ) ?_ gn)
     intro Yt443 Bt443 hEt443 hqt443
     clear hEt443
     simp only[nn]
     refine gr (rs:= [24]) (gcW 24 (some 39) rfl rfl (cu hqt443) (Dc Bt443 9 [Aq h.l.length Ag,0,Ai vs.length,Ai ns.length,Af vs,Af [Ag],Bw ns,Ay h.l.length vs,Ay h.l.length [Ag]] _ (hqt443.hold 5 rfl) (by simp)) ?_ gn)
     refine gp 25 (some 12) (.int .i64 (orE [Aq h.l.length Ag,0,Ai vs.length,Ai ns.length,Af vs,Af [Ag],Bw ns,Ay h.l.length vs,Ay h.l.length [Ag]])) rfl rfl (cu hqt443) ?_
     refine wpAnyH_done (by kernel_rfl) ?_ _
     try simp only[nn]
     exact pN ⟨_,_,_,rfl,cu hqt443⟩
   ·intro Yt445 Bt445 hEt445 hqt445
    clear hEt445
    simp only[nn]
    refine gr (rs:= [2]) (gcB 2 (some 17) rfl rfl hqt445 (Jy h Ag _ (hqt445.hp 0 rfl) (hT.fr hqt445.fr H.low).1) (fun x=>cu x) ?_ gn)
    intro Yt446 hqt446
    simp only[nn]
    refine gr (rs:= [4]) (gcB 4 (some 19) rfl rfl hqt446 (Eo _) (fun x=>cu x) ?_ gn)
    intro Yt447 hqt447
    simp only[nn]
    refine gr (rs:= [6]) (gcW 6 (some 21) rfl rfl (cu hqt447) (Gk B vs.length c _) ?_ gn)
    simp only[nn]
    refine gr (rs:= [8]) (gcW 8 (some 23) rfl rfl (cu hqt447) (Eg NB ns.length nc _) ?_ gn)
    simp only[nn]
    refine gr (rs:= [10]) (gcB 10 (some 25) rfl rfl hqt447 (Aw B c vs _ (hT.fr hqt447.fr H.low).1 (HRV hqt447.fr) hz1) (fun x=>cu x) ?_ gn)
    intro Yt450 hqt450
    simp only[nn]
    refine gr (rs:= [13]) (gcB 13 (some 28) rfl rfl hqt450 (Aw (some ⟨Bt376,0,none⟩) 1 [Ag] _ (hT.fr hqt450.fr H.low).1 (Ah (hqt450.hold 3 rfl)) (by simp)) (fun x=>cu x) ?_ gn)
    intro Yt451 hqt451
    simp only[nn]
    refine gr (rs:= [15]) (gcB 15 (some 30) rfl rfl hqt451 (Db NB nc ns _ (hT.fr hqt451.fr H.low).1 (HRN hqt451.fr) hz2) (fun x=>cu x) ?_ gn)
    intro Yt452 hqt452
    simp only[nn]
    refine gr (rs:= [18]) (gcB 18 (some 33) rfl rfl hqt452 (Ak h B c vs _ (hqt452.hp 0 rfl) (hT.fr hqt452.fr H.low).1 (HRV hqt452.fr) hz1) (fun x=>cu x) ?_ gn)
    intro Yt453 hqt453
    simp only[nn]
    refine gr (rs:= [22]) (gcB 22 (some 37) rfl rfl hqt453 (Ak h (some ⟨Bt445,0,none⟩) 1 [Ag] _ (hqt453.hp 0 rfl) (hT.fr hqt453.fr H.low).1 (Ah (hqt453.hold 4 rfl)) (by simp)) (fun x=>cu x) ?_ gn)
    intro Yt454 hqt454
    simp only[nn]
    refine gr (rs:= [23]) (Ar 23 (some 38) rfl rfl (by kernel_rfl) (Da rfl rfl rfl rfl rfl rfl rfl rfl rfl rfl) (Nat.succ_pos _) hqt454 (fun _ hZ=>cu hZ) ?_ gn)
    intro Yt455 Bt455 hEt455 hqt455
    clear hEt455
    simp only[nn]
    refine gr (rs:= [24]) (gcW 24 (some 39) rfl rfl (cu hqt455) (Dc Bt455 9 [Aq h.l.length Ag,0,Ai vs.length,Ai ns.length,Af vs,Af [Ag],Bw ns,Ay h.l.length vs,Ay h.l.length [Ag]] _ (hqt455.hold 5 rfl) (by simp)) ?_ gn)
    refine gp 25 (some 12) (.int .i64 (orE [Aq h.l.length Ag,0,Ai vs.length,Ai ns.length,Af vs,Af [Ag],Bw ns,Ay h.l.length vs,Ay h.l.length [Ag]])) rfl rfl (cu hqt455) ?_
    refine wpAnyH_done (by kernel_rfl) ?_ _
    try simp only[nn]
    exact pN ⟨_,_,_,rfl,cu hqt455⟩
  ·intro Yt457 Bt457 hEt457 hqt457
   clear hEt457
   simp only[nn]
   refine gr (rs:= [2,12]) (gcB 2 (some 17) rfl rfl hqt457 (Jy h Ag _ (hqt457.hp 0 rfl) (hT.fr hqt457.fr H.low).1) (fun x=>cu x) ?_ (Ar 12 (some 27) rfl rfl (by kernel_rfl) (Bi rfl rfl) (Nat.succ_pos _) hqt457 (fun _ hZ=>cu hZ) ?_ gn))
   ·intro Yt458 hqt458
    simp only[nn]
    refine gr (rs:= [4,12]) (gcB 4 (some 19) rfl rfl hqt458 (Eo _) (fun x=>cu x) ?_ (Ar 12 (some 27) rfl rfl (by kernel_rfl) (Bi rfl rfl) (Nat.succ_pos _) hqt458 (fun _ hZ=>cu hZ) ?_ gn))
    ·intro Yt459 hqt459
     simp only[nn]
     refine gr (rs:= [6,12]) (gcW 6 (some 21) rfl rfl (cu hqt459) (Gk B vs.length c _) ?_ (Ar 12 (some 27) rfl rfl (by kernel_rfl) (Bi rfl rfl) (Nat.succ_pos _) hqt459 (fun _ hZ=>cu hZ) ?_ gn))
     ·simp only[nn]
      refine gr (rs:= [8,12]) (gcW 8 (some 23) rfl rfl (cu hqt459) (Eg NB ns.length nc _) ?_ (Ar 12 (some 27) rfl rfl (by kernel_rfl) (Bi rfl rfl) (Nat.succ_pos _) hqt459 (fun _ hZ=>cu hZ) ?_ gn))
      ·simp only[nn]
       refine gr (rs:= [10,12]) (gcB 10 (some 25) rfl rfl hqt459 (Aw B c vs _ (hT.fr hqt459.fr H.low).1 (HRV hqt459.fr) hz1) (fun x=>cu x) ?_ (Ar 12 (some 27) rfl rfl (by kernel_rfl) (Bi rfl rfl) (Nat.succ_pos _) hqt459 (fun _ hZ=>cu hZ) ?_ gn))
       ·intro Yt462 hqt462
        simp only[nn]
        refine gr (rs:= [12]) (Ar 12 (some 27) rfl rfl (by kernel_rfl) (Bi rfl rfl) (Nat.succ_pos _) hqt462 (fun _ hZ=>cu hZ) ?_ gn)
        intro Yt463 Bt463 hEt463 hqt463
        clear hEt463
        simp only[nn]
        refine gr (rs:= [13]) (gcB 13 (some 28) rfl rfl hqt463 (Aw (some ⟨Bt463,0,none⟩) 1 [Ag] _ (hT.fr hqt463.fr H.low).1 (Ah (hqt463.hold 4 rfl)) (by simp)) (fun x=>cu x) ?_ gn)
        intro Yt464 hqt464
        simp only[nn]
        refine gr (rs:= [15]) (gcB 15 (some 30) rfl rfl hqt464 (Db NB nc ns _ (hT.fr hqt464.fr H.low).1 (HRN hqt464.fr) hz2) (fun x=>cu x) ?_ gn)
        intro Yt465 hqt465
        simp only[nn]
        refine gr (rs:= [18]) (gcB 18 (some 33) rfl rfl hqt465 (Ak h B c vs _ (hqt465.hp 0 rfl) (hT.fr hqt465.fr H.low).1 (HRV hqt465.fr) hz1) (fun x=>cu x) ?_ gn)
        intro Yt466 hqt466
        simp only[nn]
        refine gr (rs:= [22]) (gcB 22 (some 37) rfl rfl hqt466 (Ak h (some ⟨Bt457,0,none⟩) 1 [Ag] _ (hqt466.hp 0 rfl) (hT.fr hqt466.fr H.low).1 (Ah (hqt466.hold 3 rfl)) (by simp)) (fun x=>cu x) ?_ gn)
        intro Yt467 hqt467
        simp only[nn]
        refine gr (rs:= [23]) (Ar 23 (some 38) rfl rfl (by kernel_rfl) (Da rfl rfl rfl rfl rfl rfl rfl rfl rfl rfl) (Nat.succ_pos _) hqt467 (fun _ hZ=>cu hZ) ?_ gn)
        intro Yt468 Bt468 hEt468 hqt468
        clear hEt468
        simp only[nn]
        refine gr (rs:= [24]) (gcW 24 (some 39) rfl rfl (cu hqt468) (Dc Bt468 9 [Aq h.l.length Ag,0,Ai vs.length,Ai ns.length,Af vs,Af [Ag],Bw ns,Ay h.l.length vs,Ay h.l.length [Ag]] _ (hqt468.hold 5 rfl) (by simp)) ?_ gn)
        refine gp 25 (some 12) (.int .i64 (orE [Aq h.l.length Ag,0,Ai vs.length,Ai ns.length,Af vs,Af [Ag],Bw ns,Ay h.l.length vs,Ay h.l.length [Ag]])) rfl rfl (cu hqt468) ?_
        refine wpAnyH_done (by kernel_rfl) ?_ _
        try simp only[nn]
        exact pN ⟨_,_,_,rfl,cu hqt468⟩
       ·intro Yt470 Bt470 hEt470 hqt470
        clear hEt470
        simp only[nn]
        refine gr (rs:= [10]) (gcB 10 (some 25) rfl rfl hqt470 (Aw B c vs _ (hT.fr hqt470.fr H.low).1 (HRV hqt470.fr) hz1) (fun x=>cu x) ?_ gn)
        intro Yt471 hqt471
        simp only[nn]
        refine gr (rs:= [13]) (gcB 13 (some 28) rfl rfl hqt471 (Aw (some ⟨Bt470,0,none⟩) 1 [Ag] _ (hT.fr hqt471.fr H.low).1 (Ah (hqt471.hold 4 rfl)) (by simp)) (fun x=>cu x) ?_ gn)
        intro Yt472 hqt472
        simp only[nn]
        refine gr (rs:= [15]) (gcB 15 (some 30) rfl rfl hqt472 (Db NB nc ns _ (hT.fr hqt472.fr H.low).1 (HRN hqt472.fr) hz2) (fun x=>cu x) ?_ gn)
        intro Yt473 hqt473
        simp only[nn]
        refine gr (rs:= [18]) (gcB 18 (some 33) rfl rfl hqt473 (Ak h B c vs _ (hqt473.hp 0 rfl) (hT.fr hqt473.fr H.low).1 (HRV hqt473.fr) hz1) (fun x=>cu x) ?_ gn)
        intro Yt474 hqt474
        simp only[nn]
        refine gr (rs:= [22]) (gcB 22 (some 37) rfl rfl hqt474 (Ak h (some ⟨Bt457,0,none⟩) 1 [Ag] _ (hqt474.hp 0 rfl) (hT.fr hqt474.fr H.low).1 (Ah (hqt474.hold 3 rfl)) (by simp)) (fun x=>cu x) ?_ gn)
        intro Yt475 hqt475
        simp only[nn]
        refine gr (rs:= [23]) (Ar 23 (some 38) rfl rfl (by kernel_rfl) (Da rfl rfl rfl rfl rfl rfl rfl rfl rfl rfl) (Nat.succ_pos _) hqt475 (fun _ hZ=>cu hZ) ?_ gn)
        intro Yt476 Bt476 hEt476 hqt476
        clear hEt476
        simp only[nn]
        refine gr (rs:= [24]) (gcW 24 (some 39) rfl rfl (cu hqt476) (Dc Bt476 9 [Aq h.l.length Ag,0,Ai vs.length,Ai ns.length,Af vs,Af [Ag],Bw ns,Ay h.l.length vs,Ay h.l.length [Ag]] _ (hqt476.hold 5 rfl) (by simp)) ?_ gn)
        refine gp 25 (some 12) (.int .i64 (orE [Aq h.l.length Ag,0,Ai vs.length,Ai ns.length,Af vs,Af [Ag],Bw ns,Ay h.l.length vs,Ay h.l.length [Ag]])) rfl rfl (cu hqt476) ?_
        refine wpAnyH_done (by kernel_rfl) ?_ _
        try simp only[nn]
        exact pN ⟨_,_,_,rfl,cu hqt476⟩
      ·intro Yt478 Bt478 hEt478 hqt478
       clear hEt478
       simp only[nn]
       refine gr (rs:= [8]) (gcW 8 (some 23) rfl rfl (cu hqt478) (Eg NB ns.length nc _) ?_ gn)
       simp only[nn]
       refine gr (rs:= [10]) (gcB 10 (some 25) rfl rfl hqt478 (Aw B c vs _ (hT.fr hqt478.fr H.low).1 (HRV hqt478.fr) hz1) (fun x=>cu x) ?_ gn)
       intro Yt480 hqt480
       simp only[nn]
       refine gr (rs:= [13]) (gcB 13 (some 28) rfl rfl hqt480 (Aw (some ⟨Bt478,0,none⟩) 1 [Ag] _ (hT.fr hqt480.fr H.low).1 (Ah (hqt480.hold 4 rfl)) (by simp)) (fun x=>cu x) ?_ gn)
       intro Yt481 hqt481
       simp only[nn]
       refine gr (rs:= [15]) (gcB 15 (some 30) rfl rfl hqt481 (Db NB nc ns _ (hT.fr hqt481.fr H.low).1 (HRN hqt481.fr) hz2) (fun x=>cu x) ?_ gn)
       intro Yt482 hqt482
       simp only[nn]
       refine gr (rs:= [18]) (gcB 18 (some 33) rfl rfl hqt482 (Ak h B c vs _ (hqt482.hp 0 rfl) (hT.fr hqt482.fr H.low).1 (HRV hqt482.fr) hz1) (fun x=>cu x) ?_ gn)
       intro Yt483 hqt483
       simp only[nn]
       refine gr (rs:= [22]) (gcB 22 (some 37) rfl rfl hqt483 (Ak h (some ⟨Bt457,0,none⟩) 1 [Ag] _ (hqt483.hp 0 rfl) (hT.fr hqt483.fr H.low).1 (Ah (hqt483.hold 3 rfl)) (by simp)) (fun x=>cu x) ?_ gn)
       intro Yt484 hqt484
       simp only[nn]
       refine gr (rs:= [23]) (Ar 23 (some 38) rfl rfl (by kernel_rfl) (Da rfl rfl rfl rfl rfl rfl rfl rfl rfl rfl) (Nat.succ_pos _) hqt484 (fun _ hZ=>cu hZ) ?_ gn)
       intro Yt485 Bt485 hEt485 hqt485
       clear hEt485
       simp only[nn]
       refine gr (rs:= [24]) (gcW 24 (some 39) rfl rfl (cu hqt485) (Dc Bt485 9 [Aq h.l.length Ag,0,Ai vs.length,Ai ns.length,Af vs,Af [Ag],Bw ns,Ay h.l.length vs,Ay h.l.length [Ag]] _ (hqt485.hold 5 rfl) (by simp)) ?_ gn)
       refine gp 25 (some 12) (.int .i64 (orE [Aq h.l.length Ag,0,Ai vs.length,Ai ns.length,Af vs,Af [Ag],Bw ns,Ay h.l.length vs,Ay h.l.length [Ag]])) rfl rfl (cu hqt485) ?_
       refine wpAnyH_done (by kernel_rfl) ?_ _
       try simp only[nn]
       exact pN ⟨_,_,_,rfl,cu hqt485⟩
     ·intro Yt487 Bt487 hEt487 hqt487
      clear hEt487
      simp only[nn]
      refine gr (rs:= [6]) (gcW 6 (some 21) rfl rfl (cu hqt487) (Gk B vs.length c _) ?_ gn)
      simp only[nn]
      refine gr (rs:= [8]) (gcW 8 (some 23) rfl rfl (cu hqt487) (Eg NB ns.length nc _) ?_ gn)
      simp only[nn]
      refine gr (rs:= [10]) (gcB 10 (some 25) rfl rfl hqt487 (Aw B c vs _ (hT.fr hqt487.fr H.low).1 (HRV hqt487.fr) hz1) (fun x=>cu x) ?_ gn)
      intro Yt490 hqt490
      simp only[nn]
      refine gr (rs:= [13]) (gcB 13 (some 28) rfl rfl hqt490 (Aw (some ⟨Bt487,0,none⟩) 1 [Ag] _ (hT.fr hqt490.fr H.low).1 (Ah (hqt490.hold 4 rfl)) (by simp)) (fun x=>cu x) ?_ gn)
      intro Yt491 hqt491
      simp only[nn]
      refine gr (rs:= [15]) (gcB 15 (some 30) rfl rfl hqt491 (Db NB nc ns _ (hT.fr hqt491.fr H.low).1 (HRN hqt491.fr) hz2) (fun x=>cu x) ?_ gn)
      intro Yt492 hqt492
      simp only[nn]
      refine gr (rs:= [18]) (gcB 18 (some 33) rfl rfl hqt492 (Ak h B c vs _ (hqt492.hp 0 rfl) (hT.fr hqt492.fr H.low).1 (HRV hqt492.fr) hz1) (fun x=>cu x) ?_ gn)
      intro Yt493 hqt493
      simp only[nn]
      refine gr (rs:= [22]) (gcB 22 (some 37) rfl rfl hqt493 (Ak h (some ⟨Bt457,0,none⟩) 1 [Ag] _ (hqt493.hp 0 rfl) (hT.fr hqt493.fr H.low).1 (Ah (hqt493.hold 3 rfl)) (by simp)) (fun x=>cu x) ?_ gn)
      intro Yt494 hqt494
      simp only[nn]
      refine gr (rs:= [23]) (Ar 23 (some 38) rfl rfl (by kernel_rfl) (Da rfl rfl rfl rfl rfl rfl rfl rfl rfl rfl) (Nat.succ_pos _) hqt494 (fun _ hZ=>cu hZ) ?_ gn)
      intro Yt495 Bt495 hEt495 hqt495
      clear hEt495
      simp only[nn]
      refine gr (rs:= [24]) (gcW 24 (some 39) rfl rfl (cu hqt495) (Dc Bt495 9 [Aq h.l.length Ag,0,Ai vs.length,Ai ns.length,Af vs,Af [Ag],Bw ns,Ay h.l.length vs,Ay h.l.length [Ag]] _ (hqt495.hold 5 rfl) (by simp)) ?_ gn)
      refine gp 25 (some 12) (.int .i64 (orE [Aq h.l.length Ag,0,Ai vs.length,Ai ns.length,Af vs,Af [Ag],Bw ns,Ay h.l.length vs,Ay h.l.length [Ag]])) rfl rfl (cu hqt495) ?_
      refine wpAnyH_done (by kernel_rfl) ?_ _
      try simp only[nn]
      exact pN ⟨_,_,_,rfl,cu hqt495⟩
    ·intro Yt497 Bt497 hEt497 hqt497
     clear hEt497
     simp only[nn]
     refine gr (rs:= [4]) (gcB 4 (some 19) rfl rfl hqt497 (Eo _) (fun x=>cu x) ?_ gn)
     intro Yt498 hqt498
     simp only[nn]
     refine gr (rs:= [6]) (gcW 6 (some 21) rfl rfl (cu hqt498) (Gk B vs.length c _) ?_ gn)
     simp only[nn]
     refine gr (rs:= [8]) (gcW 8 (some 23) rfl rfl (cu hqt498) (Eg NB ns.length nc _) ?_ gn)
     simp only[nn]
     refine gr (rs:= [10]) (gcB 10 (some 25) rfl rfl hqt498 (Aw B c vs _ (hT.fr hqt498.fr H.low).1 (HRV hqt498.fr) hz1) (fun x=>cu x) ?_ gn)
     intro Yt501 hqt501
     simp only[nn]
     refine gr (rs:= [13]) (gcB 13 (some 28) rfl rfl hqt501 (Aw (some ⟨Bt497,0,none⟩) 1 [Ag] _ (hT.fr hqt501.fr H.low).1 (Ah (hqt501.hold 4 rfl)) (by simp)) (fun x=>cu x) ?_ gn)
     intro Yt502 hqt502
     simp only[nn]
     refine gr (rs:= [15]) (gcB 15 (some 30) rfl rfl hqt502 (Db NB nc ns _ (hT.fr hqt502.fr H.low).1 (HRN hqt502.fr) hz2) (fun x=>cu x) ?_ gn)
     intro Yt503 hqt503
     simp only[nn]
     refine gr (rs:= [18]) (gcB 18 (some 33) rfl rfl hqt503 (Ak h B c vs _ (hqt503.hp 0 rfl) (hT.fr hqt503.fr H.low).1 (HRV hqt503.fr) hz1) (fun x=>cu x) ?_ gn)
     intro Yt504 hqt504
     simp only[nn]
     refine gr (rs:= [22]) (gcB 22 (some 37) rfl rfl hqt504 (Ak h (some ⟨Bt457,0,none⟩) 1 [Ag] _ (hqt504.hp 0 rfl) (hT.fr hqt504.fr H.low).1 (Ah (hqt504.hold 3 rfl)) (by simp)) (fun x=>cu x) ?_ gn)
     intro Yt505 hqt505
     simp only[nn]
     refine gr (rs:= [23]) (Ar 23 (some 38) rfl rfl (by kernel_rfl) (Da rfl rfl rfl rfl rfl rfl rfl rfl rfl rfl) (Nat.succ_pos _) hqt505 (fun _ hZ=>cu hZ) ?_ gn)
     intro Yt506 Bt506 hEt506 hqt506
     clear hEt506
     simp only[nn]
     refine gr (rs:= [24]) (gcW 24 (some 39) rfl rfl (cu hqt506) (Dc Bt506 9 [Aq h.l.length Ag,0,Ai vs.length,Ai ns.length,Af vs,Af [Ag],Bw ns,Ay h.l.length vs,Ay h.l.length [Ag]] _ (hqt506.hold 5 rfl) (by simp)) ?_ gn)
     refine gp 25 (some 12) (.int .i64 (orE [Aq h.l.length Ag,0,Ai vs.length,Ai ns.length,Af vs,Af [Ag],Bw ns,Ay h.l.length vs,Ay h.l.length [Ag]])) rfl rfl (cu hqt506) ?_
     refine wpAnyH_done (by kernel_rfl) ?_ _
     try simp only[nn]
     exact pN ⟨_,_,_,rfl,cu hqt506⟩
   ·intro Yt508 Bt508 hEt508 hqt508
    clear hEt508
    simp only[nn]
    refine gr (rs:= [2]) (gcB 2 (some 17) rfl rfl hqt508 (Jy h Ag _ (hqt508.hp 0 rfl) (hT.fr hqt508.fr H.low).1) (fun x=>cu x) ?_ gn)
    intro Yt509 hqt509
    simp only[nn]
    refine gr (rs:= [4]) (gcB 4 (some 19) rfl rfl hqt509 (Eo _) (fun x=>cu x) ?_ gn)
    intro Yt510 hqt510
    simp only[nn]
    refine gr (rs:= [6]) (gcW 6 (some 21) rfl rfl (cu hqt510) (Gk B vs.length c _) ?_ gn)
    simp only[nn]
    refine gr (rs:= [8]) (gcW 8 (some 23) rfl rfl (cu hqt510) (Eg NB ns.length nc _) ?_ gn)
    simp only[nn]
    refine gr (rs:= [10]) (gcB 10 (some 25) rfl rfl hqt510 (Aw B c vs _ (hT.fr hqt510.fr H.low).1 (HRV hqt510.fr) hz1) (fun x=>cu x) ?_ gn)
    intro Yt513 hqt513
    simp only[nn]
    refine gr (rs:= [13]) (gcB 13 (some 28) rfl rfl hqt513 (Aw (some ⟨Bt508,0,none⟩) 1 [Ag] _ (hT.fr hqt513.fr H.low).1 (Ah (hqt513.hold 4 rfl)) (by simp)) (fun x=>cu x) ?_ gn)
    intro Yt514 hqt514
    simp only[nn]
    refine gr (rs:= [15]) (gcB 15 (some 30) rfl rfl hqt514 (Db NB nc ns _ (hT.fr hqt514.fr H.low).1 (HRN hqt514.fr) hz2) (fun x=>cu x) ?_ gn)
    intro Yt515 hqt515
    simp only[nn]
    refine gr (rs:= [18]) (gcB 18 (some 33) rfl rfl hqt515 (Ak h B c vs _ (hqt515.hp 0 rfl) (hT.fr hqt515.fr H.low).1 (HRV hqt515.fr) hz1) (fun x=>cu x) ?_ gn)
    intro Yt516 hqt516
    simp only[nn]
    refine gr (rs:= [22]) (gcB 22 (some 37) rfl rfl hqt516 (Ak h (some ⟨Bt457,0,none⟩) 1 [Ag] _ (hqt516.hp 0 rfl) (hT.fr hqt516.fr H.low).1 (Ah (hqt516.hold 3 rfl)) (by simp)) (fun x=>cu x) ?_ gn)
    intro Yt517 hqt517
    simp only[nn]
    refine gr (rs:= [23]) (Ar 23 (some 38) rfl rfl (by kernel_rfl) (Da rfl rfl rfl rfl rfl rfl rfl rfl rfl rfl) (Nat.succ_pos _) hqt517 (fun _ hZ=>cu hZ) ?_ gn)
    intro Yt518 Bt518 hEt518 hqt518
    clear hEt518
    simp only[nn]
    refine gr (rs:= [24]) (gcW 24 (some 39) rfl rfl (cu hqt518) (Dc Bt518 9 [Aq h.l.length Ag,0,Ai vs.length,Ai ns.length,Af vs,Af [Ag],Bw ns,Ay h.l.length vs,Ay h.l.length [Ag]] _ (hqt518.hold 5 rfl) (by simp)) ?_ gn)
    refine gp 25 (some 12) (.int .i64 (orE [Aq h.l.length Ag,0,Ai vs.length,Ai ns.length,Af vs,Af [Ag],Bw ns,Ay h.l.length vs,Ay h.l.length [Ag]])) rfl rfl (cu hqt518) ?_
    refine wpAnyH_done (by kernel_rfl) ?_ _
    try simp only[nn]
    exact pN ⟨_,_,_,rfl,cu hqt518⟩
 ·rintro a' X ⟨v27,v36,v38,rfl,hS9⟩
  simp only[nn]
  have SS:=Ac hS9
  clear hS9
  by_cases hc:orE [Aq h.l.length Ag,0,Ai vs.length,Ai ns.length,Af vs,Af [Ag],Bw ns,Ay h.l.length vs,Ay h.l.length [Ag]]=0
  ·obtain⟨e1,e2,e3,e4,e5,e6⟩:Ai vs.length=0/\Ai ns.length=0/\Af vs=0/\Bw ns=0/\Ay h.l.length vs=0/\True:=⟨En hc _ (by simp),En hc _ (by simp),En hc _ (by simp),En hc _ (by simp),En hc _ (by simp),trivial⟩
   have hv1:=Yx e1
   have hn1:=Yx e2
   have hgood: ∀(i:Nat) (v:VV),vs[i]? =some v->v.good=true:=fun i v hv=>Ly e3 v (List.mem_of_getElem? hv)
   have hnS:=text_ok e4
   clear e1 e2 e3 e4 e5 e6
   have HADD:=fun (p:PM)=>add_map h p (by omega) hr
   simp only[Dk] at HADD
   have h6:6<=w.heap.size:=by have:=H.big;omega
   go_wp2_with (first|go_skip|((with_reducible show wpList ..);first|(refine rd rfl (Kz rfl rfl rfl hc) ?_)))
   have hsz:=(Aa SS).fr.size
   have hS4:Sy w _ h.blocks [hpO h,Al Ba Ag.cs,Al Bb Ag.cs]:=(Aa SS).drew
   clear SS
   refine wp_region_held_drew (P:=prog) (S:=fun X=>Holds X Ba Ag.cs) (by kernel_rfl) (hS4.hold 1 rfl) (fun hS0=> ?_)
   refine gp 0 (some 45) (.pointer (some ⟨h.b,0,none⟩)) rfl rfl (hS4.hold 1 rfl) ?_
   refine gq 1 (some 46) (.agg (Ag.cs).toArray) rfl rfl (fun X hX=>Ax (vs:=Ag.cs) 26 5 rwV szV rfl rfl hX rfl rfl) (hS4.hold 1 rfl) ?_
   refine gq 2 (some 47) (.agg #[]) rfl rfl (fun X hX=>ex_bA rfl) (hS4.hold 1 rfl) ?_
   refine gp 3 (some 48) (.iface 74 (.agg #[])) rfl rfl (hS4.hold 1 rfl) ?_
   refine gp 4 (some 49) (.slice B vs.length c) rfl rfl (hS4.hold 1 rfl) ?_
   refine gp 5 (some 50) (.slice NB ns.length nc) rfl rfl (hS4.hold 1 rfl) ?_
   refine gr (rs:= [6]) (gc 6 (some 51) rfl rfl (newPar B NB c nc vs ns _ (HRV hS4.fr) (HRN hS4.fr) hnS hv1 hn1) ?_ gn)
   rintro e Yu1 ⟨p,rfl,hNP,hpI,hpB,hpL⟩
   have hqu1:=Sy.add hS4 (Mc p) hpI hpB (fun b hb=>hpL b hb)
   refine⟨_,rfl,hqu1.hold 1 rfl, ?_⟩
   refine gp 7 (some 52) (.iface 75 (.pointer (some ⟨p.b,0,none⟩))) rfl rfl (hqu1.hold 1 rfl) ?_
   refine gr (rs:= [8]) (gc 8 (some 53) rfl rfl (HADD p _ (hqu1.hp 0 rfl) (hT.fr hqu1.fr H.low)) ?_ gn)
   rintro e Yu2 hA
   obtain⟨gv,q,rfl,a1,a2,a3,a4,a5,a6,a7,TA⟩:=hA
   have hqa:=Sy.heap hqu1 0 rfl TA
   refine⟨_,rfl,hqa.hold 1 rfl, ?_⟩
   refine gp 9 (some 44) (.tuple #[.int .i64 ((h.l.length:Int)+1), .nilIface]) rfl rfl (hqa.hold 1 rfl) ?_
   refine gp 10 (some 54) (.int .i64 ((h.l.length:Int)+1)) rfl rfl (hqa.hold 1 rfl) ?_
   refine gp 11 (some 55) (.nilIface) rfl rfl (hqa.hold 1 rfl) ?_
   refine gp 12 (some 13) (.int .i64 ((h.l.length:Int)+1)) rfl rfl (hqa.hold 1 rfl) ?_
   refine gp 13 (some 14) (.nilIface) rfl rfl (hqa.hold 1 rfl) ?_
   refine wpAnyH_done (by kernel_rfl) ?_ _
   try simp only[nn]
   have SS:=Ac (Sy.takeP hqa h0 h6 (fun x hx=>Nat.le_trans hsz (hpL x hx)))
   have HPM:=Ac hNP
   have hb1:(h.more gv q).b=h.b:=TA.hb
   clear hqa TA hpI hpB hNP
   have HF:=fun (X:World) (S:Sy w X h.blocks [hpO ((h.more gv q).pm p),Al Ba Ag.cs,Al Bb Ag.cs])=>fill_h ((h.more gv q).pm p) h.l.length q B c vs X (S.hp 0 rfl) (by show (h.l++ [q]).length<=65536;simp;omega) pm_at (hT.fr S.fr H.low) (fun k=>HRV (S.fr.trans k (fun b hb=>S.lo _ (List.mem_cons_self ..) b hb))) hv1 hgood hX64 a3 (ti_zero a6 a7)
   rw[show ((h.more gv q).pm p).b=h.b from hb1] at HF
   simp only[Em] at HF
   go_wp2_with (first|go_skip|((with_reducible show wpList ..);first|(refine zL (Ag.cs) 26 5 2 rwV szV (by rfl) rfl rfl SS rfl rfl rfl ?_;simp only[nn])|(refine rd rfl (ex_bU rfl) ?_)))
   have HH:=Zag Ag
   simp only[Dk,Em] at HH
   refine(HH _).mono ?_
   clear HH
   rintro _ Y5 ⟨rfl,hb5⟩
   replace SS:=Ac ((Aa SS).on hb5)
   clear hb5
   go_wp2_with fail
   refine(HF _ (Aa SS)).mono ?_
   rintro _ Y6 ⟨T',rfl,hte,TF⟩
   replace SS:=Ac ((Aa SS).heap 0 rfl TF)
   have HTE:=Ac hte
   clear TF hte HF
   go_wp2
   go_ret2
   exact .inr ⟨hc,gv,q,p,T',rfl,a1,a2,a3,a4,a5,Aa HPM,Aa HTE,HP.To.end H (Aa SS) hb1⟩
  ·go_wp2_with (first|go_skip|((with_reducible show wpList ..);first|(refine rd rfl (Ky rfl rfl rfl hc) ?_)))
   go_ret2
   exact .inl ⟨hc,rfl,HP.To.end H (Aa SS) rfl⟩
