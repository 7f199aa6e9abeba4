import Derived.Test.YtfefpbjkbmaicaaGreatDoorRw
import Derived.Test.YtfefpbjkbmaicaaGreatDoorRv
set_option linter.all false
namespace Go.Proofs.YtfefpbjkbmaicaaGreatDoor
set_option maxRecDepth 100000
set_option maxHeartbeats 0
section
open Go Go.Proofs Go.Maps Go.RowKit FM Tryz
attribute [local go_sem] Av Ap Dv Du De Au Ao Az Dd Gu Gt
theorem ex_bnum {o:Oper} {a:Act} {w:World} {x:Operand} {n:Nat} (ho:o.op= .build 26 #[(0, .const (.int .i64 4)),(2,x)]) (hx:a.eval x= .float .f64 n):(execOp a.eval o).run prog w= .ok (.value (.agg (Es n).cs.toArray)) w:=by
 have e:(Instr.build 26 #[(0, .int .i64 4),(2, .float .f64 n)]).run prog w= .ok (.agg (Es n).cs.toArray) w:=by kernel_rfl
 unfold execOp
 simp only[ho,List.map_toArray,List.map_cons,List.map_nil,hx]
 simp[e,Act.eval]
theorem ZbE {o:Oper} {a:Act} {w:World} (ho:o.op= .build 26 #[(0, .const (.int .i64 2))]):(execOp a.eval o).run prog w= .ok (.value (.agg Ag.cs.toArray)) w:=by
 have e:(Instr.build 26 #[(0, .int .i64 2)]).run prog w= .ok (.agg Ag.cs.toArray) w:=by kernel_rfl
 unfold execOp
 simp only[ho,List.map_toArray,List.map_cons,List.map_nil]
 simp[e,Act.eval]
theorem ex_bref1 {o:Oper} {a:Act} {w:World} (ho:o.op= .build 26 #[(0, .const (.int .i64 7)),(4, .const (.int .i64 1))]):(execOp a.eval o).run prog w= .ok (.value (.agg (Ep 1).cs.toArray)) w:=Rh ho rfl
theorem new_f (w:World) (h6:6<=w.heap.size):Calls prog 5 #[.int .i64 3, .int .i64 100, .int .i64 10] w fun e w'=> ∃B,e= .returned (.tuple #[.pointer (some ⟨B,0,none⟩), .int .i64 0])/\(El B 3 100 10).Is w'/\w.heap.size<=B/\Below w.heap.size w w':=by
 refine(new_h 3 100 10 w h6).mono ?_
 intro e X hN
 rcases hN with ⟨h0,_⟩|⟨_,h⟩
 ·cases h0
 ·exact h
theorem new_sy {w X Y:World} {B:Nat} {L:List Ob} (S:Sy w X [] L) (hI:(El B 3 100 10).Is Y) (hB:X.heap.size<=B) (hb:Below X.heap.size X Y):Sy w Y [] (L++ [hpO (El B 3 100 10)]):=
 S.add (Yf _) hI hb (fun b h=>by
  have:b=B:=by simpa [hpO,ZaU] using h
  omega)
theorem Eu {w X:World} (hT:Tabs w) (hf:Fr w X []):Tabs X:=hT.fr hf (by simp)
theorem Zb (B:Nat):Jk (El B 3 100 10)=0:=rfl
theorem Mu (x:Nat) (w:World):Calls prog 18 #[.float .f64 x] w fun e w'=>e= .returned ((Es x).agg)/\Below w.heap.size w w':=by
 have SS:=Ac (Sy.nil w [])
 rw[Dk]
 go_enter func18,ntmps18
 go_wp2_with (first|go_skip|((with_reducible show wpList ..);first|(refine zA 26 (Bz.cs) (by rfl) rfl SS ?_;clear SS;intro Xa Ba SS;simp only[nn])|(refine rd rfl (ex_bnum rfl rfl) ?_)|(refine zS ((Es x).cs) 0 26 (by rfl) rfl rfl rfl rfl (Eb _) szV SS rfl ?_;clear SS;intro Xz SS;simp only[nn])))
 refine Vi rwV szV rfl rfl rfl ((Aa SS).hold 0 rfl) rfl ?_
 exact⟨rfl,(Aa SS).fr.below⟩
def aS:ByteArray:=⟨#[97]⟩
def bS:ByteArray:=⟨#[98]⟩
def awV:List VV:= [Es 4607182418800017408,Es 4611686018427387904,Es 4613937818241073152]
def awN:List ByteArray:= [aS,bS]
theorem Nh {o:Oper} {a:Act} {w:World} {x0 x1 x2:Operand} (ho:o.op= .buildSlice 22 3 #[(0,x0),(1,x1),(2,x2)]) (h0:a.eval x0=(Es 4607182418800017408).agg) (h1:a.eval x1=(Es 4611686018427387904).agg) (h2:a.eval x2=(Es 4613937818241073152).agg):(execOp a.eval o).run prog w= .ok (.value (.slice (some ⟨w.heap.size,0,none⟩) 3 3)) (w.alloc (Obj.cells (awV.flatMap VV.cs).toArray 26)):=Gm ho h0 h1 h2
theorem Um {o:Oper} {a:Act} {w:World} (ho:o.op= .buildSlice 23 2 #[(0, .const (.string aS)),(1, .const (.string bS))]):(execOp a.eval o).run prog w= .ok (.value (.slice (some ⟨w.heap.size,0,none⟩) 2 2)) (w.alloc (Obj.cells (awN.map Value.string).toArray 9)):=by
 have e:(Instr.buildSlice 23 2 #[(0, .string aS),(1, .string bS)]).run prog w= .ok (.slice (some ⟨w.heap.size,0,none⟩) 2 2) (w.alloc (Obj.cells (awN.map Value.string).toArray 9)):=by kernel_rfl
 unfold execOp
 simp only[ho,List.map_toArray,List.map_cons,List.map_nil]
 simp[e,Act.eval]
theorem Jl {w:World} {B:Nat} {l:List ByteArray} (h:Holds w B (l.map Value.string)):Lh w (some ⟨B,0,none⟩) l:=fun j s hj=>by
 have hlt:=(List.getElem?_eq_some_iff.1 hj).1
 refine⟨B,0,rfl,h.lt (by simp;omega), ?_⟩
 have:=h.cell j (v:= .string s) (by rw[List.getElem?_map,hj];rfl)
 rw[Nat.zero_add,Nat.mul_one]
 exact this
theorem Jw {w X X':World} {E:List Nat} {L:List Ob} (S:Sy w X E L) {i j B:Nat} {cs:List Value} {h:HP} (hi:L[i]? =some (Al B cs)) (hj:L[j]? =some (hpO h)) (hne:i≠j) (k:Fr X X' h.blocks):Holds X' B cs:=
 (S.hold i hi).block (k.block B (S.lt i hi B (List.mem_singleton.2 rfl)) (S.apart hi hj hne B (List.mem_singleton.2 rfl)))
theorem aw_code:orE [Aq 0 Ag,0,Ai awV.length,Ai awN.length,Af awV,Af [Ag],Bw awN,Ay 0 awV,Ay 0 [Ag]]=0:=by
 have h1:Af awV=0:=by
  unfold Af awV
  simp[Es,Ln]
 have h2:Af [Ag]=0:=by
  unfold Af
  rw[List.all_cons,Mv]
  rfl
 have h3:Bw awN=0:=by
  have ha:okN aS=true:=by kernel_rfl
  have hb:okN bS=true:=by kernel_rfl
  unfold Bw awN
  simp[ha,hb]
 have h4:Ay 0 awV=0:=by
  unfold Ay awV Ut
  simp[Es]
 have h5:Ay 0 [Ag]=0:=by
  unfold Ay Ut
  simp[Ag]
 rw[Vp,h1,h2,h3,h4,h5]
 rfl
theorem aw_x64 (i:Nat) (v:VV) (h:awV[i]? =some v):v.x<2^64:=by
 have:=List.mem_of_getElem? h
 simp only[awV,List.mem_cons,List.not_mem_nil,or_false] at this
 rcases this with rfl|rfl|rfl<;>(show (_:Nat)<2^64)<;>decide
theorem ab_ne:aS≠bS:=fun h=>by
 have h2:(#[97]:Array UInt8)= #[98]:=congrArg ByteArray.data h
 exact absurd h2 (by decide)
theorem aw_tie {p:PM} (h:NewPM awV awN p): ∃m a,p.pF bS=some m/\p.l[m]? =some a/\a.n=bS/\a.t=1/\a.v=Es 4611686018427387904/\p.tF ((1:Nat):Int)=some m/\p.tF 2=none:=by
 obtain⟨m,hm⟩:=h.st.all 1 bS (by decide) rfl
 obtain⟨a,ha,hn⟩:=h.st.pl bS m hm
 obtain⟨h1,h2,h3, -⟩:=h.st.at' m a ha
 have h2:a.t<2:=h2
 have ht:a.t=1:=by
  rcases Nat.lt_or_ge a.t 1 with h9|h9
  ·obtain h0:a.t=0:=by omega
   rw[h0,hn] at h3
   exact absurd (Option.some.inj (show some aS=some bS from h3)) ab_ne
  ·omega
 have hF:=h.d m a ha (by rw[ht];decide)
 rw[ht] at hF
 obtain⟨a2,ha2,h4,h5⟩:=h.e _ m hF
 rw[ha] at ha2
 cases ha2
 rw[ht] at h5
 refine⟨m,a,hm,ha,hn,ht,(Option.some.inj (show some (Es 4611686018427387904)=some a.v from h5)).symm,hF, ?_⟩
 cases h6:p.tF 2 with
 |none=>rfl
 |some m2=>
  obtain⟨a3,ha3,h7,_⟩:=h.e _ m2 h6
  obtain⟨_,h8,_,_⟩:=h.st.at' m2 a3 ha3
  have h8:a3.t<2:=h8
  omega
theorem one_idx:(⟨⟨#[49]⟩,0⟩:KK)=idxK 1:=by
 have e:Lib.decDigits 1= [49]:=by
  rw[Lib.decDigits,dif_pos (by decide)]
  rfl
 unfold idxK Ou
 rw[e]
theorem ex_k1 {o:Oper} {a:Act} {w:World} (ho:o.op= .build 42 #[(0, .const (.string ⟨#[49]⟩))]):(execOp a.eval o).run prog w= .ok (.value (.agg (idxK 1).cs.toArray)) w:=by
 rw[←one_idx]
 exact ex_kc ⟨#[49]⟩ ho
theorem mo_new {h:HP} {gv:Value} {q:OB} {p:PM} {T':TT} {n:Nat} {vs:List VV} (hl:h.l= []) (hx:q.x=true) (hm:q.m=true) (how:q.ow=some (75, .pointer (some ⟨p.b,0,none⟩))) (ht:TE T' vs n) (hn:n<=2000):MO (((h.more gv q).pm p).tab 0 q T') 0 {q with T:=T'} p:=by
 have hj:((h.more gv q).pm p).l[0]? =some q:=by
  show (h.l++ [q])[0]? =some q
  rw[hl]
  rfl
 exact⟨Mn hj T',hm,how,rfl,hx,by rw[Jh];show (h.l++ [q]).length<=_;rw[hl];simp,Nat.le_trans ht.la hn⟩
theorem set_zero {n i:Nat} {v r:VV} (hn:1<=n) (hi:i<=1000000) (hv:v.good=true) (hg:r.good=true) (hk1:Gz n v=true) (hk:Gz n r=true):orE [thE 1 n,Dh (idxK i),Af [v,r],By n [v,r]]=0:=by
 have h0:=Uf hn hi hg hk
 have h1:thE 1 n=0:=En h0 _ (by simp)
 have h2:Dh (idxK i)=0:=En h0 _ (by simp)
 have h3:Af [v,r]=0:=by
  unfold Af
  rw[List.all_cons,List.all_cons,hv,hg]
  rfl
 have h4:By n [v,r]=0:=by
  unfold By
  rw[List.all_cons,List.all_cons,hk1,hk]
  rfl
 rw[h1,h2,h3,h4]
 rfl
theorem ex_feq {o:Oper} {a:Act} {w:World} {x y:Operand} {n:Nat} (ho:o.op= .binOp .eql 24 x y 24) (hx:a.eval x= .float .f64 n) (hc:a.eval y= .float .f64 n) (hn:(FloatKind.f64.format.order n n==some .eq)=true):(execOp a.eval o).run prog w= .ok (.value (.bool true)) w:=by
 have hq:=Ji (P:=prog) 9999 24 n n w underlying24
 have e:(binOp .eql 24 (.float .f64 n) (.float .f64 n)).run prog w= .ok (.bool true) w:=by
  simp[go_sem,hq,hn]
 unfold execOp
 simp only[ho,hx,hc]
 simp[eqGuard,e]
def AwF (q:OB) (p:PM) (T':TT):Prop:=q.x=true/\q.m=true/\q.ow=some (75, .pointer (some ⟨p.b,0,none⟩))/\NewPM awV awN p/\TE T' awV 5
theorem aw_map (B0 b1 b2:Nat) (X:World) (H:(El B0 3 100 10).Is X) (hT:Tabs X) (h1: ∀{Y:World},Fr X Y (El B0 3 100 10).blocks->ReadsV Y (some ⟨b1,0,none⟩) awV) (h2: ∀{Y:World},Fr X Y (El B0 3 100 10).blocks->Lh Y (some ⟨b2,0,none⟩) awN):Calls prog 6 #[.pointer (some ⟨B0,0,none⟩),Ag.agg, .slice (some ⟨b1,0,none⟩) 3 3, .slice (some ⟨b2,0,none⟩) 2 2,Ag.agg] X fun e Y=> ∃(gv:Value) (q:OB) (p:PM) (T':TT),e= .returned (.tuple #[.int .i64 1, .nilIface])/\AwF q p T'/\(El B0 3 100 10).To ((((El B0 3 100 10).more gv q).pm p).tab 0 q T') X Y:=by
 refine(Rw (El B0 3 100 10) (some ⟨b1,0,none⟩) (some ⟨b2,0,none⟩) 3 2 awV awN X H hT h1 h2 (by decide) (by decide) (by simp[El]) (Zb B0) rfl aw_x64).mono ?_
 rintro e Y (⟨h3,_⟩|⟨_,gv,q,p,T',rfl,a1,a2,a3,a4,a5,a6,a7,a8⟩)
 ·exact absurd aw_code h3
 ·exact⟨gv,q,p,T',rfl,⟨a3,a4,a5,a6,a7⟩,a8⟩
theorem awake_h (w:World) (h6:6<=w.heap.size) (hT:Tabs w):Calls prog 4 #[] w fun e w'=>e= .returned (.bool true)/\Below w.heap.size w w':=by
 have SS:=Ac (Sy.nil w [])
 have HT:=Ac hT
 clear hT
 go_enter func4,ntmps4
 go_wp2_with fail
 refine(new_f _ h6).mono ?_
 rintro _ X1 ⟨B0,rfl,hI,hB0,hb⟩
 replace SS:=Ac (new_sy (Aa SS) hI hB0 hb)
 clear hI hb hB0
 go_wp2_with (first|go_skip|((with_reducible show wpList ..);first|(refine rd rfl (ZbE rfl) ?_)|(refine zA 26 (Bz.cs) (by rfl) rfl SS ?_;clear SS;intro Xn Bn SS;simp only[nn])|(refine zS (Ag.cs) 1 26 (by rfl) rfl rfl rfl rfl (Eb _) szV SS rfl ?_;clear SS;intro X1 SS;simp only[nn])))
 have HMAP:=fun (b1 b2:Nat)=>aw_map B0 b1 b2
 have hS:Sy w _ [] [hpO (El B0 3 100 10),Al Bn Ag.cs]:=(Aa SS).drew
 clear SS
 refine Je (fun a a' X=> ∃(v41 v42:Value) (gv:Value) (q:OB) (p:PM) (T':TT),a'=(((((((((((((((((a.put (some 33) (.pointer (some ⟨B0,0,none⟩))).put (some 34) (.agg (Ag.cs).toArray)).put (some 35) (.func (.func 18) #[] #[])).put (some 36) ((Es 4607182418800017408).agg)).put (some 37) (.func (.func 18) #[] #[])).put (some 38) ((Es 4611686018427387904).agg)).put (some 39) (.func (.func 18) #[] #[])).put (some 40) ((Es 4613937818241073152).agg)).put (some 41) v41).put (some 42) v42).put (some 43) (.agg (Ag.cs).toArray)).put (some 44) (.tuple #[.int .i64 1, .nilIface])).put (some 32) (.tuple #[.int .i64 1, .nilIface])).put (some 45) (.int .i64 1)).put (some 46) (.nilIface)).put (some 5) (.int .i64 1)).put (some 6) (.nilIface))/\AwF q p T'/\Sy w X [] [hpO ((((El B0 3 100 10).more gv q).pm p).tab 0 q T'),Al Bn Ag.cs]) ?_ ?_
 ·refine wp_region_held_drew (P:=prog) (S:=fun X=>Holds X Bn Ag.cs) (by kernel_rfl) (hS.hold 1 rfl) (fun hS0=> ?_)
  refine gp 0 (some 33) (.pointer (some ⟨B0,0,none⟩)) rfl rfl (hS.hold 1 rfl) ?_
  refine gq 1 (some 34) (.agg (Ag.cs).toArray) rfl rfl (fun X hX=>Ax (vs:=Ag.cs) 26 5 rwV szV rfl rfl hX rfl rfl) (hS.hold 1 rfl) ?_
  refine gp 2 (some 35) (.func (.func 18) #[] #[]) rfl rfl (hS.hold 1 rfl) ?_
  refine gp 4 (some 37) (.func (.func 18) #[] #[]) rfl rfl (hS.hold 1 rfl) ?_
  refine gp 6 (some 39) (.func (.func 18) #[] #[]) rfl rfl (hS.hold 1 rfl) ?_
  refine gq 10 (some 43) (.agg (Ag.cs).toArray) rfl rfl (fun X hX=>Ax (vs:=Ag.cs) 26 5 rwV szV rfl rfl hX rfl rfl) (hS.hold 1 rfl) ?_
  refine gr (rs:= [3,9]) (gc 3 (some 36) rfl rfl (Mu 4607182418800017408 _) ?_ (Ar 9 (some 42) rfl rfl (by kernel_rfl) (Um rfl) (Nat.succ_pos _) hS (fun _ hZ=>hZ.hold 1 rfl) ?_ gn))
  ·rintro e Yt1 ⟨rfl,hYt1⟩
   have hqt1:=Sy.on hS hYt1
   refine⟨_,rfl,hqt1.hold 1 rfl, ?_⟩
   simp only[nn]
   refine gr (rs:= [5,9]) (gc 5 (some 38) rfl rfl (Mu 4611686018427387904 _) ?_ (Ar 9 (some 42) rfl rfl (by kernel_rfl) (Um rfl) (Nat.succ_pos _) hqt1 (fun _ hZ=>hZ.hold 1 rfl) ?_ gn))
   ·rintro e Yt2 ⟨rfl,hYt2⟩
    have hqt2:=Sy.on hqt1 hYt2
    refine⟨_,rfl,hqt2.hold 1 rfl, ?_⟩
    simp only[nn]
    refine gr (rs:= [7,9]) (gc 7 (some 40) rfl rfl (Mu 4613937818241073152 _) ?_ (Ar 9 (some 42) rfl rfl (by kernel_rfl) (Um rfl) (Nat.succ_pos _) hqt2 (fun _ hZ=>hZ.hold 1 rfl) ?_ gn))
    ·rintro e Yt3 ⟨rfl,hYt3⟩
     have hqt3:=Sy.on hqt2 hYt3
     refine⟨_,rfl,hqt3.hold 1 rfl, ?_⟩
     simp only[nn]
     refine gr (rs:= [8,9]) (Ar 8 (some 41) rfl rfl (by kernel_rfl) (Nh rfl rfl rfl rfl) (Nat.succ_pos _) hqt3 (fun _ hZ=>hZ.hold 1 rfl) ?_ (Ar 9 (some 42) rfl rfl (by kernel_rfl) (Um rfl) (Nat.succ_pos _) hqt3 (fun _ hZ=>hZ.hold 1 rfl) ?_ gn))
     ·intro Yt4 Bt4 hEt4 hqt4
      clear hEt4
      simp only[nn]
      refine gr (rs:= [9]) (Ar 9 (some 42) rfl rfl (by kernel_rfl) (Um rfl) (Nat.succ_pos _) hqt4 (fun _ hZ=>hZ.hold 1 rfl) ?_ gn)
      intro Yt5 Bt5 hEt5 hqt5
      clear hEt5
      simp only[nn]
      refine gr (rs:= [11]) (gc 11 (some 44) rfl rfl (HMAP Bt4 Bt5 _ (hqt5.hp 0 rfl) (Eu (Aa HT) hqt5.fr) (fun k=>Ah (Jw hqt5 (i:=2) (j:=0) rfl rfl (by decide) k)) (fun k=>Jl (Jw hqt5 (i:=3) (j:=0) rfl rfl (by decide) k))) ?_ gn)
      rintro e Yt6 ⟨gv,q,p,T',rfl,hMF,TM⟩
      have hqm:=Sy.heap hqt5 0 rfl TM
      refine⟨_,rfl,hqm.hold 1 rfl, ?_⟩
      refine gp 12 (some 32) (.tuple #[.int .i64 1, .nilIface]) rfl rfl (hqm.hold 1 rfl) ?_
      refine gp 13 (some 45) (.int .i64 1) rfl rfl (hqm.hold 1 rfl) ?_
      refine gp 14 (some 46) (.nilIface) rfl rfl (hqm.hold 1 rfl) ?_
      refine gp 15 (some 5) (.int .i64 1) rfl rfl (hqm.hold 1 rfl) ?_
      refine gp 16 (some 6) (.nilIface) rfl rfl (hqm.hold 1 rfl) ?_
      refine wpAnyH_done (by kernel_rfl) ?_ _
      try simp only[nn]
      exact pN ⟨_,_,gv,q,p,T',rfl,hMF,Sy.left (L:= [_,_]) (M:= [Al Bt4 (awV.flatMap VV.cs),Al Bt5 (awN.map Value.string)]) hqm⟩
     ·intro Yt7 Bt7 hEt7 hqt7
      clear hEt7
      simp only[nn]
      refine gr (rs:= [8]) (Ar 8 (some 41) rfl rfl (by kernel_rfl) (Nh rfl rfl rfl rfl) (Nat.succ_pos _) hqt7 (fun _ hZ=>hZ.hold 1 rfl) ?_ gn)
      intro Yt8 Bt8 hEt8 hqt8
      clear hEt8
      simp only[nn]
      refine gr (rs:= [11]) (gc 11 (some 44) rfl rfl (HMAP Bt8 Bt7 _ (hqt8.hp 0 rfl) (Eu (Aa HT) hqt8.fr) (fun k=>Ah (Jw hqt8 (i:=3) (j:=0) rfl rfl (by decide) k)) (fun k=>Jl (Jw hqt8 (i:=2) (j:=0) rfl rfl (by decide) k))) ?_ gn)
      rintro e Yt9 ⟨gv,q,p,T',rfl,hMF,TM⟩
      have hqm:=Sy.heap hqt8 0 rfl TM
      refine⟨_,rfl,hqm.hold 1 rfl, ?_⟩
      refine gp 12 (some 32) (.tuple #[.int .i64 1, .nilIface]) rfl rfl (hqm.hold 1 rfl) ?_
      refine gp 13 (some 45) (.int .i64 1) rfl rfl (hqm.hold 1 rfl) ?_
      refine gp 14 (some 46) (.nilIface) rfl rfl (hqm.hold 1 rfl) ?_
      refine gp 15 (some 5) (.int .i64 1) rfl rfl (hqm.hold 1 rfl) ?_
      refine gp 16 (some 6) (.nilIface) rfl rfl (hqm.hold 1 rfl) ?_
      refine wpAnyH_done (by kernel_rfl) ?_ _
      try simp only[nn]
      exact pN ⟨_,_,gv,q,p,T',rfl,hMF,Sy.left (L:= [_,_]) (M:= [Al Bt7 (awN.map Value.string),Al Bt8 (awV.flatMap VV.cs)]) hqm⟩
    ·intro Yt10 Bt10 hEt10 hqt10
     clear hEt10
     simp only[nn]
     refine gr (rs:= [7]) (gc 7 (some 40) rfl rfl (Mu 4613937818241073152 _) ?_ gn)
     rintro e Yt11 ⟨rfl,hYt11⟩
     have hqt11:=Sy.on hqt10 hYt11
     refine⟨_,rfl,hqt11.hold 1 rfl, ?_⟩
     simp only[nn]
     refine gr (rs:= [8]) (Ar 8 (some 41) rfl rfl (by kernel_rfl) (Nh rfl rfl rfl rfl) (Nat.succ_pos _) hqt11 (fun _ hZ=>hZ.hold 1 rfl) ?_ gn)
     intro Yt12 Bt12 hEt12 hqt12
     clear hEt12
     simp only[nn]
     refine gr (rs:= [11]) (gc 11 (some 44) rfl rfl (HMAP Bt12 Bt10 _ (hqt12.hp 0 rfl) (Eu (Aa HT) hqt12.fr) (fun k=>Ah (Jw hqt12 (i:=3) (j:=0) rfl rfl (by decide) k)) (fun k=>Jl (Jw hqt12 (i:=2) (j:=0) rfl rfl (by decide) k))) ?_ gn)
     rintro e Yt13 ⟨gv,q,p,T',rfl,hMF,TM⟩
     have hqm:=Sy.heap hqt12 0 rfl TM
     refine⟨_,rfl,hqm.hold 1 rfl, ?_⟩
     refine gp 12 (some 32) (.tuple #[.int .i64 1, .nilIface]) rfl rfl (hqm.hold 1 rfl) ?_
     refine gp 13 (some 45) (.int .i64 1) rfl rfl (hqm.hold 1 rfl) ?_
     refine gp 14 (some 46) (.nilIface) rfl rfl (hqm.hold 1 rfl) ?_
     refine gp 15 (some 5) (.int .i64 1) rfl rfl (hqm.hold 1 rfl) ?_
     refine gp 16 (some 6) (.nilIface) rfl rfl (hqm.hold 1 rfl) ?_
     refine wpAnyH_done (by kernel_rfl) ?_ _
     try simp only[nn]
     exact pN ⟨_,_,gv,q,p,T',rfl,hMF,Sy.left (L:= [_,_]) (M:= [Al Bt10 (awN.map Value.string),Al Bt12 (awV.flatMap VV.cs)]) hqm⟩
   ·intro Yt14 Bt14 hEt14 hqt14
    clear hEt14
    simp only[nn]
    refine gr (rs:= [5]) (gc 5 (some 38) rfl rfl (Mu 4611686018427387904 _) ?_ gn)
    rintro e Yt15 ⟨rfl,hYt15⟩
    have hqt15:=Sy.on hqt14 hYt15
    refine⟨_,rfl,hqt15.hold 1 rfl, ?_⟩
    simp only[nn]
    refine gr (rs:= [7]) (gc 7 (some 40) rfl rfl (Mu 4613937818241073152 _) ?_ gn)
    rintro e Yt16 ⟨rfl,hYt16⟩
    have hqt16:=Sy.on hqt15 hYt16
    refine⟨_,rfl,hqt16.hold 1 rfl, ?_⟩
    simp only[nn]
    refine gr (rs:= [8]) (Ar 8 (some 41) rfl rfl (by kernel_rfl) (Nh rfl rfl rfl rfl) (Nat.succ_pos _) hqt16 (fun _ hZ=>hZ.hold 1 rfl) ?_ gn)
    intro Yt17 Bt17 hEt17 hqt17
    clear hEt17
    simp only[nn]
    refine gr (rs:= [11]) (gc 11 (some 44) rfl rfl (HMAP Bt17 Bt14 _ (hqt17.hp 0 rfl) (Eu (Aa HT) hqt17.fr) (fun k=>Ah (Jw hqt17 (i:=3) (j:=0) rfl rfl (by decide) k)) (fun k=>Jl (Jw hqt17 (i:=2) (j:=0) rfl rfl (by decide) k))) ?_ gn)
    rintro e Yt18 ⟨gv,q,p,T',rfl,hMF,TM⟩
    have hqm:=Sy.heap hqt17 0 rfl TM
    refine⟨_,rfl,hqm.hold 1 rfl, ?_⟩
    refine gp 12 (some 32) (.tuple #[.int .i64 1, .nilIface]) rfl rfl (hqm.hold 1 rfl) ?_
    refine gp 13 (some 45) (.int .i64 1) rfl rfl (hqm.hold 1 rfl) ?_
    refine gp 14 (some 46) (.nilIface) rfl rfl (hqm.hold 1 rfl) ?_
    refine gp 15 (some 5) (.int .i64 1) rfl rfl (hqm.hold 1 rfl) ?_
    refine gp 16 (some 6) (.nilIface) rfl rfl (hqm.hold 1 rfl) ?_
    refine wpAnyH_done (by kernel_rfl) ?_ _
    try simp only[nn]
    exact pN ⟨_,_,gv,q,p,T',rfl,hMF,Sy.left (L:= [_,_]) (M:= [Al Bt14 (awN.map Value.string),Al Bt17 (awV.flatMap VV.cs)]) hqm⟩
  ·intro Yt19 Bt19 hEt19 hqt19
   clear hEt19
   simp only[nn]
   refine gr (rs:= [3]) (gc 3 (some 36) rfl rfl (Mu 4607182418800017408 _) ?_ gn)
   rintro e Yt20 ⟨rfl,hYt20⟩
   have hqt20:=Sy.on hqt19 hYt20
   refine⟨_,rfl,hqt20.hold 1 rfl, ?_⟩
   simp only[nn]
   refine gr (rs:= [5]) (gc 5 (some 38) rfl rfl (Mu 4611686018427387904 _) ?_ gn)
   rintro e Yt21 ⟨rfl,hYt21⟩
   have hqt21:=Sy.on hqt20 hYt21
   refine⟨_,rfl,hqt21.hold 1 rfl, ?_⟩
   simp only[nn]
   refine gr (rs:= [7]) (gc 7 (some 40) rfl rfl (Mu 4613937818241073152 _) ?_ gn)
   rintro e Yt22 ⟨rfl,hYt22⟩
   have hqt22:=Sy.on hqt21 hYt22
   refine⟨_,rfl,hqt22.hold 1 rfl, ?_⟩
   simp only[nn]
   refine gr (rs:= [8]) (Ar 8 (some 41) rfl rfl (by kernel_rfl) (Nh rfl rfl rfl rfl) (Nat.succ_pos _) hqt22 (fun _ hZ=>hZ.hold 1 rfl) ?_ gn)
   intro Yt23 Bt23 hEt23 hqt23
   clear hEt23
   simp only[nn]
   refine gr (rs:= [11]) (gc 11 (some 44) rfl rfl (HMAP Bt23 Bt19 _ (hqt23.hp 0 rfl) (Eu (Aa HT) hqt23.fr) (fun k=>Ah (Jw hqt23 (i:=3) (j:=0) rfl rfl (by decide) k)) (fun k=>Jl (Jw hqt23 (i:=2) (j:=0) rfl rfl (by decide) k))) ?_ gn)
   rintro e Yt24 ⟨gv,q,p,T',rfl,hMF,TM⟩
   have hqm:=Sy.heap hqt23 0 rfl TM
   refine⟨_,rfl,hqm.hold 1 rfl, ?_⟩
   refine gp 12 (some 32) (.tuple #[.int .i64 1, .nilIface]) rfl rfl (hqm.hold 1 rfl) ?_
   refine gp 13 (some 45) (.int .i64 1) rfl rfl (hqm.hold 1 rfl) ?_
   refine gp 14 (some 46) (.nilIface) rfl rfl (hqm.hold 1 rfl) ?_
   refine gp 15 (some 5) (.int .i64 1) rfl rfl (hqm.hold 1 rfl) ?_
   refine gp 16 (some 6) (.nilIface) rfl rfl (hqm.hold 1 rfl) ?_
   refine wpAnyH_done (by kernel_rfl) ?_ _
   try simp only[nn]
   exact pN ⟨_,_,gv,q,p,T',rfl,hMF,Sy.left (L:= [_,_]) (M:= [Al Bt19 (awN.map Value.string),Al Bt23 (awV.flatMap VV.cs)]) hqm⟩
 ·rintro a' X ⟨v41,v42,gv,q,p,T',rfl,⟨f1,f2,f3,f4,f5⟩,hS9⟩
  simp only[nn]
  have SS:=Ac hS9
  clear hS9 HMAP
  obtain⟨m,a,g1,g2,g3,g4,g5,g6,g7⟩:=aw_tie f4
  have M0:MO ((((El B0 3 100 10).more gv q).pm p).tab 0 q T') 0 {q with T:=T'} p:=mo_new rfl f1 f2 f3 f5 (by decide)
  have hel:lkP (pr T') (idxK 1)=some (opnD (Es 4611686018427387904)):=f5.el 1 _ rfl
  have hug:(Es 4611686018427387904).good=true:=Ln _
  have M1:MS ((((El B0 3 100 10).more gv q).pm p).tab 0 q T') 0 {q with T:=T'} p 1 m a (Es 4611686018427387904):=⟨M0,g6,g2,g4,by decide,hel,hug,(show (4611686018427387904:Nat)<2^64 by decide)⟩
  have K0:((((El B0 3 100 10).more gv q).pm p).tab 0 q T').Ok:=⟨by rw[Jh];simp[HP.pm,HP.more,El],(show (0:Int)<=100 by decide),(show (100:Int)<=9223372036854775807 by decide),(show (0:Int)<=0 by decide),(show (0:Int)<=10 by decide),(show (10:Int)<=100000000 by decide)⟩
  have hln:((((El B0 3 100 10).more gv q).pm p).tab 0 q T').l.length=1:=by rw[Jh];simp[HP.pm,HP.more,El]
  have hb0:((((El B0 3 100 10).more gv q).pm p).tab 0 q T').b=B0:=rfl
  obtain⟨hh,hhe⟩: ∃hh,hh=((((El B0 3 100 10).more gv q).pm p).tab 0 q T'):=⟨_,rfl⟩
  rw[←hhe] at M0 M1 K0 hln hb0 SS
  have hf0:hh.fuel=100:=by rw[hhe];rfl
  have hd0:hh.ent=0/\hh.depth=10:=by rw[hhe];exact⟨rfl,rfl⟩
  have hla:{q with T:=T'}.T.last<=1500:=Nat.le_trans f5.la (by decide)
  obtain⟨qq,hqe⟩: ∃qq,qq={q with T:=T'}:=⟨_,rfl⟩
  rw[←hqe] at M0 M1 hla
  clear hhe hqe f1 f2 f3 f4 f5 hel hug
  go_wp2_with (first|go_skip|((with_reducible show wpList ..);first|(refine rd rfl (ex_bref1 rfl) ?_)|(refine zA 26 (Bz.cs) (by rfl) rfl SS ?_;clear SS;intro Xr Br SS;simp only[nn])|(refine zS ((Ep 1).cs) 2 26 (by rfl) rfl rfl rfl rfl (Eb _) szV SS rfl ?_;clear SS;intro X2 SS;simp only[nn])|(refine rd rfl (ex_k1 rfl) ?_)|(refine zA 42 (Mk.cs) (by rfl) rfl SS ?_;clear SS;intro Xk Bk SS;simp only[nn])|(refine zS ((idxK 1).cs) 3 42 (by rfl) rfl rfl rfl rfl (oneK _) szK SS rfl ?_;clear SS;intro X3 SS;simp only[nn])|(refine zL ((idxK 1).cs) 42 2 3 rwK szK (by rfl) rfl rfl SS rfl rfl rfl ?_;simp only[nn])|(refine zL ((Ep 1).cs) 26 5 2 rwV szV (by rfl) rfl rfl SS rfl rfl rfl ?_;simp only[nn])))
  have HG:=Za5 hh qq p 1 m a (Ep 1)
  rw[hb0] at HG
  simp only[Ec,Dk] at HG
  refine(HG _ ((Aa SS).hp 0 rfl) (Eu (Aa HT) (Aa SS).fr) K0 M0 (by omega) (by omega) (by decide) (Ph (by decide) (by decide)) (by rw[hln];rfl) g6 g2).mono ?_
  clear HG
  rintro _ Y4 ⟨rfl,TG⟩
  replace SS:=Ac ((Aa SS).heap 0 rfl TG)
  clear TG
  rw[g5]
  go_wp2_with (first|go_skip|((with_reducible show wpList ..);first|(refine zA 26 (Bz.cs) (by rfl) rfl SS ?_;clear SS;intro Xu Bu SS;simp only[nn])|(refine zS ((Es 4611686018427387904).cs) 4 26 (by rfl) rfl rfl rfl rfl (Eb _) szV SS rfl ?_;clear SS;intro X4 SS;simp only[nn])))
  have HNM:=Mu 4621256167635550208
  refine(HNM _).mono ?_
  clear HNM
  rintro _ Y5 ⟨rfl,hb5⟩
  replace SS:=Ac ((Aa SS).on hb5)
  clear hb5
  go_wp2_with fail
  have HS:=ZbZ hh.less 0 qq p 1 m a (Es 4611686018427387904) bS (Es 4621256167635550208)
  rw[show hh.less.b=B0 from hb0,show ((0:Nat):Int)+1=1 from rfl] at HS
  refine(HS _ ((Aa SS).hp 0 rfl) (Eu (Aa HT) (Aa SS).fr) M1.less (by decide) g1 (Ln _) (show (4621256167635550208:Nat)<2^64 by decide) (by show Aq hh.l.length _=0;rw[hln];kernel_rfl)).mono ?_
  clear HS
  rintro _ Y6 ⟨T2,rfl,hla2,hpr2,TG⟩
  replace SS:=Ac ((Aa SS).heap 0 rfl TG)
  clear TG
  have M2:=(M1.less.val (Es 4621256167635550208)).tabs (Ln _) (show (4621256167635550208:Nat)<2^64 by decide) (T':=T2) (by omega) hpr2
  have K2:((hh.less.pm (p.val m ⟨a.n,Es 4621256167635550208,a.t⟩)).tab 0 qq T2).Ok:=(K0.less (by omega)).tp 0 qq T2 _
  have hl2:((hh.less.pm (p.val m ⟨a.n,Es 4621256167635550208,a.t⟩)).tab 0 qq T2).l.length=1:=by rw[Jh];exact hln
  have hb2:((hh.less.pm (p.val m ⟨a.n,Es 4621256167635550208,a.t⟩)).tab 0 qq T2).b=B0:=hb0
  have hp2:(p.val m ⟨a.n,Es 4621256167635550208,a.t⟩).pF a.n=some m:=by rw[g3];exact g1
  have hf2:((hh.less.pm (p.val m ⟨a.n,Es 4621256167635550208,a.t⟩)).tab 0 qq T2).fuel=99:=by show hh.fuel - 1=99;omega
  have hd2:((hh.less.pm (p.val m ⟨a.n,Es 4621256167635550208,a.t⟩)).tab 0 qq T2).ent=0/\((hh.less.pm (p.val m ⟨a.n,Es 4621256167635550208,a.t⟩)).tab 0 qq T2).depth=10:=hd0
  obtain⟨h2,hh2⟩: ∃h2,h2=(hh.less.pm (p.val m ⟨a.n,Es 4621256167635550208,a.t⟩)).tab 0 qq T2:=⟨_,rfl⟩
  rw[←hh2] at M2 K2 hl2 hb2 hf2 hd2 SS
  clear hh2
  obtain⟨p2,hpe⟩: ∃p2,p2=p.val m ⟨a.n,Es 4621256167635550208,a.t⟩:=⟨_,rfl⟩
  rw[←hpe] at M2 hp2
  have g72:p2.tF 2=none:=by rw[hpe];exact g7
  clear hpe
  go_wp2_with (first|go_skip|((with_reducible show wpList ..);first|(refine zL ((idxK 1).cs) 42 2 3 rwK szK (by rfl) rfl rfl SS rfl rfl rfl ?_;simp only[nn])|(refine zL ((Ep 1).cs) 26 5 2 rwV szV (by rfl) rfl rfl SS rfl rfl rfl ?_;simp only[nn])))
  have HG:=Za5 h2 {qq with T:=T2} p2 1 m ⟨a.n,Es 4621256167635550208,a.t⟩ (Ep 1)
  rw[hb2] at HG
  simp only[Ec,Dk] at HG
  refine(HG _ ((Aa SS).hp 0 rfl) (Eu (Aa HT) (Aa SS).fr) K2 M2.o (by omega) (by omega) (by decide) (Ph (by decide) (by decide)) (by rw[hl2];rfl) M2.F M2.pl).mono ?_
  clear HG
  rintro _ Y7 ⟨rfl,TG⟩
  replace SS:=Ac ((Aa SS).heap 0 rfl TG)
  clear TG
  go_wp2_with (first|go_skip|((with_reducible show wpList ..);first|(refine zA 26 (Bz.cs) (by rfl) rfl SS ?_;clear SS;intro Xv Bv SS;simp only[nn])|(refine zS ((Es 4621256167635550208).cs) 5 26 (by rfl) rfl rfl rfl rfl (Eb _) szV SS rfl ?_;clear SS;intro X5 SS;simp only[nn])))
  have HSET:=fun (X:World) (H:h2.less.Is X) (hT:Tabs X)=>dset h2.less {qq with T:=T2} p2 1 m ⟨a.n,Es 4621256167635550208,a.t⟩ (Es 4621256167635550208) (Es 4620693217682128896) X H hT (K2.less (by omega)) M2.less (show 5<=h2.fuel - 1 by omega) (show h2.ent≠h2.depth by omega) (show h2.ent+1≠h2.depth by omega) (show (4620693217682128896:Nat)<2^64 by decide) (show T2.last<=1900 by omega) hp2
  rw[show h2.less.b=B0 from hb2] at HSET
  have hcode:orE [thE 1 h2.less.l.length,Dh (idxK 1),Af [Es 4620693217682128896,Ep 1],By h2.less.l.length [Es 4620693217682128896,Ep 1]]=0:=set_zero (show 1<=h2.l.length by omega) (by decide) (Ln _) (Ph (by decide) (by decide)) rfl (by show Gz h2.l.length _=true;rw[hl2];rfl)
  have hS12:Sy w _ [] [hpO h2.less,Al Bn Ag.cs,Al Br (Ep 1).cs,Al Bk (idxK 1).cs,Al Bu (Es 4611686018427387904).cs,Al Bv (Es 4621256167635550208).cs]:=(Aa SS).drew
  clear SS
  refine wp_region_held_drew (P:=prog) (S:=fun X=>Holds X Bk (idxK 1).cs/\Holds X Br (Ep 1).cs) (by kernel_rfl) (⟨hS12.hold 3 rfl,hS12.hold 2 rfl⟩) (fun hS0=> ?_)
  refine gp 0 (some 68) (.pointer (some ⟨B0,0,none⟩)) rfl rfl (⟨hS12.hold 3 rfl,hS12.hold 2 rfl⟩) ?_
  refine gq 1 (some 69) (.agg (idxK 1).cs.toArray) rfl rfl (fun X hX=>Ax (vs:=(idxK 1).cs) 42 2 rwK szK rfl rfl hX.1 rfl rfl) (⟨hS12.hold 3 rfl,hS12.hold 2 rfl⟩) ?_
  refine gp 2 (some 70) (.func (.func 18) #[] #[]) rfl rfl (⟨hS12.hold 3 rfl,hS12.hold 2 rfl⟩) ?_
  refine gq 4 (some 72) (.agg (Ep 1).cs.toArray) rfl rfl (fun X hX=>Ax (vs:=(Ep 1).cs) 26 5 rwV szV rfl rfl hX.2 rfl rfl) (⟨hS12.hold 3 rfl,hS12.hold 2 rfl⟩) ?_
  refine gr (rs:= [3]) (gc 3 (some 71) rfl rfl (Mu 4620693217682128896 _) ?_ gn)
  rintro e Ys1 ⟨rfl,hYs1⟩
  have hqs1:=Sy.on hS12 hYs1
  refine⟨_,rfl,⟨hqs1.hold 3 rfl,hqs1.hold 2 rfl⟩, ?_⟩
  simp only[nn]
  refine gr (rs:= [5]) (gc 5 (some 73) rfl rfl (HSET _ (hqs1.hp 0 rfl) (Eu (Aa HT) hqs1.fr)) ?_ gn)
  rintro e Ys2 ⟨h3,y,er,rfl,hSE,TS⟩
  obtain⟨rfl,rfl, -,hFin⟩:er= .nilIface/\y=true/\(Es 4620693217682128896).good=true/\Fin h3 a.n 1 m (Es 4620693217682128896) true p2.tF:=by
   rcases hSE with ⟨c9,_,h9,h8,_⟩|h9
   ·exact absurd (h9.trans hcode) h8
   ·exact h9
  have hqs:=Sy.heap hqs1 0 rfl TS
  refine⟨_,rfl,⟨hqs.hold 3 rfl,hqs.hold 2 rfl⟩, ?_⟩
  refine gp 6 (some 67) (.tuple #[.bool true, .nilIface]) rfl rfl (⟨hqs.hold 3 rfl,hqs.hold 2 rfl⟩) ?_
  refine gp 7 (some 74) (.bool true) rfl rfl (⟨hqs.hold 3 rfl,hqs.hold 2 rfl⟩) ?_
  refine gp 8 (some 75) (.nilIface) rfl rfl (⟨hqs.hold 3 rfl,hqs.hold 2 rfl⟩) ?_
  refine gp 9 (some 14) (.bool true) rfl rfl (⟨hqs.hold 3 rfl,hqs.hold 2 rfl⟩) ?_
  refine gp 10 (some 15) (.nilIface) rfl rfl (⟨hqs.hold 3 rfl,hqs.hold 2 rfl⟩) ?_
  refine wpAnyH_done (by kernel_rfl) ?_ _
  try simp only[nn]
  have SS:=Ac hqs
  have hb3:h3.b=B0:=TS.hb.trans hb2
  clear hqs TS hSE
  obtain⟨q3,p3,a3,N1,N2,N3,N4,N5,N6,N7⟩:=hFin
  have hx2:p3.tF 2=none:=(N7 2 (by decide)).trans g72
  go_wp2_with fail
  have HL:=Ju h3 0 q3 p3 bS m a3
  rw[hb3,show ((0:Nat):Int)+1=1 from rfl] at HL
  refine(HL _ ((Aa SS).hp 0 rfl) N1.len N1.hj N1.ow N1.e (by decide) (by rw[←g3];exact N2) N3 (by rw[N4];decide)).mono ?_
  clear HL
  rintro _ Y8 ⟨rfl,hb8⟩
  replace SS:=Ac ((Aa SS).on hb8)
  clear hb8
  rw[N4,Dk]
  go_wp2_with (first|go_skip|((with_reducible show wpList ..);first|(refine zA 26 (Bz.cs) (by rfl) rfl SS ?_;clear SS;intro Xs Bs SS;simp only[nn])|(refine zS ((Es 4620693217682128896).cs) 6 26 (by rfl) rfl rfl rfl rfl (Eb _) szV SS rfl ?_;clear SS;intro X6 SS;simp only[nn])))
  have HL:=Kd h3 0 q3 p3 2
  rw[hb3,show ((0:Nat):Int)+1=1 from rfl] at HL
  refine(HL _ ((Aa SS).hp 0 rfl) N1.len N1.hj N1.ow N1.e (by decide) hx2).mono ?_
  clear HL
  rintro _ Y9 ⟨rfl,hb9⟩
  replace SS:=Ac ((Aa SS).on hb9)
  clear hb9
  go_wp2_with (first|go_skip|((with_reducible show wpList ..);first|(refine rd rfl (Aj 24 isAgg24 rfl rfl ((Aa SS).hold 4 rfl) rfl) ?_)|(refine rd rfl (Aj 24 isAgg24 rfl rfl ((Aa SS).hold 5 rfl) rfl) ?_)|(refine rd rfl (Aj 24 isAgg24 rfl rfl ((Aa SS).hold 6 rfl) rfl) ?_)|(refine rd rfl (ex_feq rfl rfl rfl (by kernel_rfl)) ?_)))
  go_ret
  exact⟨rfl,(Aa SS).fr.below⟩
end
section
open Go Go.Proofs Go.Maps Go.RowKit FM
attribute [local go_sem] Av Ap Dv Du De Au Ao Az Dd Gu Gt
theorem DefF.fin {h h1:HP} {q:OB} {p:PM} {i m:Nat} {a:PA} {u:VV} {d:DD} (hD:DefF h q p i m a u d h1) (M:MS h 0 q p i m a u) (hp:p.pF a.n=some m) (hla:q.T.last<=1900) {ti:Bool} (ht:(Qo d=true∨d.w=1)↔ti=false) {x:VV} (hx:x=if d.v.k=0 then a.v else d.v):Fin h1 a.n i m x ti p.tF:=by
 obtain⟨T',h1a,h1b,rfl⟩:=hD
 have hml:=(List.getElem?_eq_some_iff.1 M.pl).1
 obtain⟨p0,hp0⟩: ∃p0,(if d.v.k=0 then p else p.val m ⟨a.n,d.v,a.t⟩)=p0:=⟨_,rfl⟩
 obtain⟨hb,hF,hF2,a0,ha0,hv0,hn0⟩:p0.b=p.b/\p0.pF=p.pF/\p0.tF=p.tF/\ ∃a0,p0.l[m]? =some a0/\a0.v=x/\a0.n=a.n:=by
  by_cases hk:d.v.k=0
  ·rw[if_pos hk] at hp0 hx
   subst hp0
   exact⟨rfl,rfl,rfl,a,M.pl,hx.symm,rfl⟩
  ·rw[if_neg hk] at hp0 hx
   subst hp0
   exact⟨rfl,rfl,rfl,_,List.getElem?_set_self hml,hx.symm,rfl⟩
 have hfo:p.follow m a d=if ti=false then p0.loose a.t else p0:=by
  unfold PM.follow
  rw[hp0]
  by_cases h9:Qo d=true∨d.w=1
  ·rw[if_pos h9,if_pos (ht.1 h9)]
  ·rw[if_neg h9,if_neg (fun h8=>h9 (ht.2 h8))]
 rw[hfo]
 have hlen: ∀p9:PM,((h.less.tab 0 q T').pm p9).l.length<=65536:=fun p9=>by
  show (h.l.set 0 _).length<=_
  rw[List.length_set]
  exact M.o.len
 have hat: ∀p9:PM,((h.less.tab 0 q T').pm p9).l[0]? =some {q with T:=T'}:=fun p9=>Mn (h:=h) M.o.hj T'
 have how:q.ow=some (75, .pointer (some ⟨p0.b,0,none⟩)):=by rw[hb];exact M.o.ow
 have hl9:T'.last<=2000:=by omega
 cases ti
 ·rw[if_pos rfl]
  refine⟨{q with T:=T'},p0.loose a.t,a0,⟨hat _,M.o.mm,how,rfl,M.o.x,hlen _,hl9⟩,(by show p0.pF a.n=some m;rw[hF];exact hp),ha0,hv0,hn0, ?_,fun k hk=> ?_⟩
  ·show putK p0.tF (a.t:Int) none (i:Int)=none
   rw[M.t]
   exact Gs _ _ _
  ·show putK p0.tF (a.t:Int) none k=p.tF k
   rw[M.t,Gl _ _ hk,hF2]
 ·rw[if_neg (by decide)]
  exact⟨{q with T:=T'},p0,a0,⟨hat _,M.o.mm,how,rfl,M.o.x,hlen _,hl9⟩,(by rw[hF];exact hp),ha0,hv0,hn0,(by rw[hF2];exact M.F),fun k _=>by rw[hF2]⟩
theorem nul_ok:Ag.good=true:=Mv
theorem Vo (n:Nat):Gz n Ag=true:=rfl
theorem Fin.less {h1:HP} {s:ByteArray} {i m:Nat} {x:VV} {ti:Bool} {F0:Int->Option Nat} (hF:Fin h1 s i m x ti F0):Fin h1.less s i m x ti F0:=by
 obtain⟨q,p,a,M,h⟩:=hF
 exact⟨q,p,a,⟨M.hj,M.mm,M.ow,M.e,M.x,M.len,M.la⟩,h⟩
theorem ZbK (h h1:HP) (q:OB) (p:PM) (i m:Nat) (a:PA) (u:VV) (d:DD) (w:World) (H:h1.Is w) (hT:Tabs w) (K:h.Ok) (M:MS h 0 q p i m a u) (hD:DefF h q p i m a u d h1) (hc:Eh d=0) (hk:d.v.k≠0) (hp:p.pF a.n=some m) (hla:q.T.last<=1900) (hf:5<=h.fuel) (hd:h.ent≠h.depth):Calls Tryz.prog 16 #[.pointer (some ⟨h1.b,0,none⟩), .int .i64 1,(idxK i).agg,Ag.agg] w fun e w'=>e= .returned (.tuple #[d.v.agg, .nilIface])/\h1.To h1.less w w':=by
 have hi:i<=1000000:=by have:=M.i1;omega
 obtain⟨ti,ht⟩: ∃ti:Bool,(Qo d=true∨d.w=1)↔ti=false:=by
  by_cases h9:Qo d=true∨d.w=1
  ·exact⟨false,by simp[h9]⟩
  ·exact⟨true,by simp[h9]⟩
 have hF:=hD.fin M hp hla ht (x:=d.v) (by rw[if_neg hk])
 obtain⟨T',h1a,h1b,hh1⟩:=hD
 have K1:h1.Ok:=by
  rw[hh1]
  exact(K.less (by omega)).tp 0 q T' _
 have hf1:1<=h1.fuel:=by rw[hh1];show 1<=h.fuel - 1;omega
 have hd1:h1.ent≠h1.depth:=by rw[hh1];exact hd
 have hq1:h1.l[0]? =some {q with T:=T'}:=by rw[hh1];exact Mn (h:=h) M.o.hj T'
 obtain⟨q3,p3,a3,N1,N2,N3,N4,N5,N6,N7⟩:=hF
 cases ti
 ·have hqq:q3={q with T:=T'}:=Option.some.inj (N1.hj.symm.trans hq1)
  have hl:lkP (pr q3.T) (idxK i)=some (Mj (opnD u) d):=by
   rw[hqq]
   show lkP (pr T') (idxK i)=_
   rw[h1b,Qd,if_pos rfl]
  obtain⟨e1,e2⟩:=Zbr hl
  obtain⟨e3,e4⟩:=bec_data (d:=d) M.ug (Uo hc hk) (Qb hk)
  refine(dget_n h1 q3 p3 i m a3 Ag w H hT K1 N1 hf1 hd1 hi nul_ok (Vo _) (by rw[N6];rfl) e2 (by rw[e1];exact e4)).mono ?_
  rw[e1,e3]
  exact fun _ _ h=>h
 ·refine(Za5 h1 q3 p3 i m a3 Ag w H hT K1 N1 hf1 hd1 hi nul_ok (Vo _) (by rw[N6];rfl) N3).mono ?_
  rw[N4]
  exact fun _ _ h=>h
theorem Zg {w X Y:World} {L:List Ob} {k:Nat} {h:HP} {A:Option Addr} {vs:List VV} (S:Sy w X [] L) (hL:L[k]? =some (hpO h)) (hR:ReadsV w A vs) (hf:Fr X Y h.blocks):ReadsV Y A vs:=fun j v hj=>by
 obtain⟨b,off,h1,h2,h3⟩:=hR j v hj
 have hX:=Rp h3 h2 S.fr
 have hlt:b<X.heap.size:=Nat.lt_of_lt_of_le h2 S.fr.size
 have hne:b ∉ h.blocks:=fun hb=>by
  rcases S.lo _ (List.mem_of_getElem? hL) b hb with h9|h9
  ·cases h9
  ·omega
 exact⟨b,off,h1,Nat.lt_of_lt_of_le hlt hf.size,fun t u hu=>by rw[World.cell?_of_block (hf.block b hlt hne)];exact hX t u hu⟩
theorem Zh {w X Y:World} {L:List Ob} {k:Nat} {h:HP} {A:Option Addr} {ns:List ByteArray} (S:Sy w X [] L) (hL:L[k]? =some (hpO h)) (hR:Lh w A ns) (hf:Fr X Y h.blocks):Lh Y A ns:=fun j v hj=>by
 obtain⟨b,off,h1,h2,h3⟩:=hR j v hj
 have hlt:b<X.heap.size:=Nat.lt_of_lt_of_le h2 S.fr.size
 have hne:b ∉ h.blocks:=fun hb=>by
  rcases S.lo _ (List.mem_of_getElem? hL) b hb with h9|h9
  ·cases h9
  ·omega
 exact⟨b,off,h1,Nat.lt_of_lt_of_le hlt hf.size,by rw[World.cell?_of_block (hf.block b hlt hne),World.cell?_of_block (S.fr.block b h2 (by simp))];exact h3⟩
structure FR (h:HP) (B0:Nat) (q:OB) (p:PM):Prop where
 o:MO h 0 q p
 k:h.Ok
 ln:h.l.length=1
 b:h.b=B0
 f:h.fuel=100
 ent:h.ent=0
 dep:h.depth=10
 cap:h.cap=3
 la:q.T.last<=1500
 tie: ∀n m,p.tF n=some m-> ∃(i:Nat) (a:PA),n=(i:Int)/\MS h 0 q p i m a a.v/\p.pF a.n=some m/\a.n.size<=1048576
theorem ok_size {s:ByteArray} (h:okN s=true):s.size<=1048576:=by
 unfold okN at h
 rw[Ud,if_pos rfl,Bool.and_eq_true] at h
 exact of_decide_eq_true h.1
theorem lmap (B0:Nat) (A NA:Option Addr) (c nc:Nat) (vs:List VV) (ns:List ByteArray) (w X:World) (L:List Ob) (S:Sy w X [] L) (hL:L[2]? =some (hpO (El B0 3 100 10))) (hT:Tabs w) (hR:ReadsV w A vs) (hN:Lh w NA ns) (hz1:vs.length<=9223372036854775806) (hz2:ns.length<=9223372036854775806) (hX: ∀(i:Nat) (v:VV),vs[i]? =some v->v.x<2^64):Calls Tryz.prog 6 #[.pointer (some ⟨B0,0,none⟩),Ag.agg, .slice A vs.length c, .slice NA ns.length nc,Ag.agg] X fun e Y=>(∃cc:Int,e= .returned (.tuple #[.int .i64 0, .iface 32 (.int .i64 cc)])/\(El B0 3 100 10).To (El B0 3 100 10) X Y)∨ ∃(h:HP) (q:OB) (p:PM),e= .returned (.tuple #[.int .i64 1, .nilIface])/\FR h B0 q p/\(El B0 3 100 10).To h X Y:=by
 refine(Rw (El B0 3 100 10) A NA c nc vs ns X (S.hp 2 hL) (Eu hT S.fr) (fun k=>Zg S hL hR k) (fun k=>Zh S hL hN k) hz1 hz2 (by simp[El]) (Zb B0) rfl hX).mono ?_
 rintro e Y (⟨_,rfl,h4⟩|⟨h0,gv,q,p,T',rfl,a1,a2,a3,a4,a5,a6,a7,a8⟩)
 ·exact .inl ⟨_,rfl,h4⟩
 ·have s1:Ai vs.length=0:=En h0 _ (by simp)
  have s3:Af vs=0:=En h0 _ (by simp)
  have s4:Bw ns=0:=En h0 _ (by simp)
  have l1:vs.length<=1024:=by
   unfold Ai at s1
   by_cases h9:vs.length<=1024
   ·exact h9
   ·rw[if_neg h9] at s1
    cases s1
  have g1: ∀v∈vs,v.good=true:=Ly s3
  have g2: ∀s∈ns,okN s=true:=by
   unfold Bw at s4
   by_cases h9:ns.all okN=true
   ·exact fun s hs=>List.all_eq_true.1 h9 s hs
   ·rw[if_neg h9] at s4
    cases s4
  have M0:MO ((((El B0 3 100 10).more gv q).pm p).tab 0 q T') 0 {q with T:=T'} p:=mo_new rfl a3 a4 a5 a7 (by omega)
  refine .inr ⟨_,{q with T:=T'},p,rfl,⟨M0, ?_, ?_,rfl,rfl,rfl,rfl,rfl, ?_, ?_⟩,a8⟩
  ·exact⟨by rw[Jh];simp[HP.pm,HP.more,El],(show (0:Int)<=100 by decide),(show (100:Int)<=9223372036854775807 by decide),(show (0:Int)<=0 by decide),(show (0:Int)<=10 by decide),(show (10:Int)<=100000000 by decide)⟩
  ·show (HP.tab _ _ _ _).l.length=1
   rw[Jh]
   simp[HP.pm,HP.more,El]
  ·have:=a7.la
   show T'.last<=1500
   omega
  ·intro n m hF
   obtain⟨a,ha,hat,hva⟩:=a6.e n m hF
   obtain⟨j1,j2,j3, -⟩:=a6.st.at' m a ha
   have hlt:=(List.getElem?_eq_some_iff.1 hva).1
   refine⟨a.t,a,hat.symm,⟨M0, ?_,ha,rfl,by omega,a7.el _ _ hva,g1 _ (List.mem_of_getElem? hva),hX _ _ hva⟩,j1,ok_size (g2 _ (List.mem_of_getElem? j3))⟩
   rw[hat]
   exact hF
theorem MS.more {h:HP} {q:OB} {p:PM} {i m:Nat} {a:PA} {u:VV} (M:MS h 0 q p i m a u) (hl:h.l.length=1) (gv:Value) (q2:OB):MS (h.more gv q2) 0 q p i m a u:=by
 refine⟨⟨?_,M.o.mm,M.o.ow,M.o.e,M.o.x, ?_,M.o.la⟩,M.F,M.pl,M.t,M.i1,M.el,M.ug,M.u64⟩
 ·show (h.l++ [q2])[0]? =some q
  rw[List.getElem?_append_left (by omega)]
  exact M.o.hj
 ·show (h.l++ [q2]).length<=_
  simp[hl]
theorem nb_more {h:HP} {q2:OB} (hl:h.l.length=1) (gv:Value) (h1:q2.m=false) (h2:q2.x=true) (h3:pr q2.T= []) (h4:q2.T.last=0):NB (h.more gv q2) 1 q2:=by
 refine⟨?_,h1,h2,h3,h4⟩
 show (h.l++ [q2])[1]? =some q2
 rw[List.getElem?_append_right (by omega),hl]
 rfl
theorem HP.Ok.more {h:HP} (K:h.Ok) (hl:h.l.length=1) (gv:Value) (q2:OB):(h.more gv q2).Ok:=⟨by show (h.l++ [q2]).length<=_;simp[hl],K.f0,K.f1,K.e0,K.e1,K.d1⟩
theorem ZcC {d:DD} (hc:Eh d=0) (ha:Rq d=true):d.v.k=0:=by
 by_cases hk:d.v.k=0
 ·exact hk
 ·exfalso
  have h2:=Uo hc hk
  have h3:=Qb hk
  rw[Jm hc] at ha
  unfold Qo at ha
  unfold Df at h2
  have h4:(thV d.g||thV d.s)=true:=by
   rcases Int.decEq d.g.k 0 with h5|h5
   ·rw[Qb h5];rfl
   ·rcases Int.decEq d.s.k 0 with h6|h6
    ·rw[Qb h6];simp
    ·simp[h5,h6] at ha
  rw[h3,h4] at h2
  simp at h2
theorem Zj {d:DD} (hc:Eh d=0) (hk:d.v.k≠0):Rn d=true:=by
 unfold Rn
 rw[(Px hc).1]
 simp[hk]
