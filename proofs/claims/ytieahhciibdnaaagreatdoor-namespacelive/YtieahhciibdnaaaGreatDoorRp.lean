import Derived.Test.YtieahhciibdnaaaGreatDoorRn
import Derived.Test.YtieahhciibdnaaaGreatDoorRo
set_option linter.all false
namespace Go.Proofs.YtieahhciibdnaaaGreatDoor
set_option maxRecDepth 100000
set_option maxHeartbeats 0
section
open Go Go.Proofs Go.Maps Go.RowKit FM Tryz
attribute [local go_sem] Ak Ae Aq Dl Dk Bl Af Aj Ad Bj Et Es
theorem Gw (w:World):Calls prog 7 #[] w fun e w'=>e= .returned (nullV.agg)/\Below w.heap.size w w':=by
 have SS:=Ab (Sy.nil w [])
 go_enter func7,ntmps7
 go_wp2_with (first|go_skip|((with_reducible show wpList ..);first|(refine zA 26 (zeroV.cs) (by rfl) rfl SS ?_;clear SS;intro Xa Ba SS;simp only[nn])))
 refine(Zbj _).mono ?_
 rintro _ Y1 ⟨rfl,hb1⟩
 replace SS:=Ab ((Aa SS).on hb1)
 clear hb1
 rw[Db]
 go_wp2_with (first|go_skip|((with_reducible show wpList ..);first|(refine zS (nullV.cs) 0 26 (by rfl) rfl rfl rfl rfl (Ex _) szV SS rfl ?_;clear SS;intro Xz SS;simp only[nn])))
 refine Ol rwV szV rfl rfl rfl ((Aa SS).hold 0 rfl) rfl ?_
 exact⟨rfl,(Aa SS).fr.below⟩
def Ry (s:ByteArray):VV:=⟨5,false,0,s,0⟩
def modB:ByteArray:={data:= #[77,111,100,117,108,101]}
def modV:VV:=Ry modB
theorem ex_bStr {o:Oper} {a:Act} {w:World} {x:Operand} {s:ByteArray} (ho:o.op= .build 26 #[(0, .const (.int .i64 5)),(3,x)]) (hx:a.eval x= .string s):(execOp a.eval o).run prog w= .ok (.value (.agg (Ry s).cs.toArray)) w:=by
 have e:(Instr.build 26 #[(0, .int .i64 5),(3, .string s)]).run prog w= .ok (.agg (Ry s).cs.toArray) w:=by kernel_rfl
 unfold execOp
 simp only[ho,List.map_toArray,List.map_cons,List.map_nil,hx]
 simp[e,Act.eval]
theorem ZdT:modV.good=true:=by kernel_rfl
def Zay:DD:=⟨modV,zeroV,zeroV,1,1,1⟩
theorem ex_bMod {o:Oper} {a:Act} {w:World} {x:Operand} (v:VV) (ho:o.op= .build 48 #[(0,x),(3, .const (.int .i64 1)),(4, .const (.int .i64 1)),(5, .const (.int .i64 1))]) (hx:a.eval x= .agg v.cs.toArray):(execOp a.eval o).run prog w= .ok (.value (.agg (DD.cs ⟨v,zeroV,zeroV,1,1,1⟩).toArray)) w:=by
 have e:(Instr.build 48 #[(0, .agg v.cs.toArray),(3, .int .i64 1),(4, .int .i64 1),(5, .int .i64 1)]).run prog w= .ok (.agg (DD.cs ⟨v,zeroV,zeroV,1,1,1⟩).toArray) w:=by kernel_rfl
 unfold execOp
 simp only[ho,List.map_toArray,List.map_cons,List.map_nil,hx]
 simp[e,Act.eval]
theorem ex_bTag {o:Oper} {a:Act} {w:World} (ho:o.op= .build 45 #[(1, .const (.int .i64 12))]):(execOp a.eval o).run prog w= .ok (.value (.agg Gg.cs.toArray)) w:=by
 have e:(Instr.build 45 #[(1, .int .i64 12)]).run prog w= .ok (.agg Gg.cs.toArray) w:=by kernel_rfl
 unfold execOp
 simp only[ho,List.map_toArray,List.map_cons,List.map_nil]
 simp[e,Act.eval]
theorem str_any (s:ByteArray) (hg:(Ry s).good=true) (w:World) (hT:Lib.Utf8Tabs 1 2 w):Calls prog 65 #[.string s] w fun e w'=>e= .returned ((Ry s).agg)/\Below w.heap.size w w':=by
 have SS:=Ab (Sy.nil w [])
 have HT:=Ab hT
 clear hT
 have HC:=fun X h=>Yo (Ry s) hg X h
 simp only[Db] at HC ⊢
 go_enter func65,ntmps65
 go_wp2_with (first|go_skip|((with_reducible show wpList ..);first|(refine zA 26 (zeroV.cs) (by rfl) rfl SS ?_;clear SS;intro Xa Ba SS;simp only[nn])|(refine rd rfl (ex_bStr rfl rfl) ?_)))
 refine(HC _ (Al (Aa HT) (Aa SS).fr.below)).mono ?_
 rintro _ Y1 ⟨rfl,hb1⟩
 replace SS:=Ab ((Aa SS).on hb1)
 clear hb1
 go_wp2_with (first|go_skip|((with_reducible show wpList ..);first|(refine zS ((Ry s).cs) 0 26 (by rfl) rfl rfl rfl rfl (Ex _) szV SS rfl ?_;clear SS;intro Xz SS;simp only[nn])))
 refine Ol rwV szV rfl rfl rfl ((Aa SS).hold 0 rfl) rfl ?_
 exact⟨rfl,(Aa SS).fr.below⟩
theorem tab_len (h:HP) (j:Nat) (q:OB) (T':TT):(h.tab j q T').l.length=h.l.length:=by
 show (h.l.set j _).length=_
 rw[List.length_set]
theorem tab_at {h:HP} {j:Nat} {q:OB} (hj:h.l[j]? =some q) (T':TT):(h.tab j q T').l[j]? =some {q with T:=T'}:=by
 show (h.l.set j _)[j]? =_
 rw[List.getElem?_set_self (List.getElem?_eq_some_iff.1 hj).1]
theorem ZcQ:OkK Gg:=⟨by decide,rfl⟩
theorem Za0:goodK Gg=true:=by kernel_rfl
theorem mod_fd:FD Zay:=⟨show 0<2^64 by decide,show 0<2^64 by decide,show 0<2^64 by decide⟩
theorem Ya {T:TT} {k:KK} (h:pr T= []):getD T k=Ar:=by
 rw[pr_get,h]
 rfl
theorem app_mod:ZaR true Ar Zay=true:=by kernel_rfl
theorem appd_mod:Du true Ar Zay=Zay:=by kernel_rfl
def LayP (h:HP) (j:Nat) (q:OB) (h1:HP):Prop:= ∃T',h1=(h.tab j q T').shut j {q with T:=T'}/\T'.last<=q.T.last+1/\pr T'= [(Gg,Zay)]
theorem lay_ns (h:HP) (j:Nat) (q:OB) (w:World) (H:h.Is w) (hT:Tabs w) (hl:h.l.length<=65536) (hj:h.l[j]? =some q) (hx:q.x=true) (hp:pr q.T= []) (hla:q.T.last=0):Calls prog 33 #[.agg #[], .pointer (some ⟨h.b,0,none⟩), .int .i64 ((j:Int)+1)] w fun e w'=> ∃h1,e= .returned (.tuple #[])/\LayP h j q h1/\h.To h1 w w':=by
 have SS:=Ab H.start
 go_enter func33,ntmps33
 go_wp2_with (first|go_skip|((with_reducible show wpList ..);first|((refine Kk (by rfl) rfl rfl (Aa SS) ?_);intro X0 B0 S0;replace SS:=Ab S0;clear S0;simp only[nn])))
 have HC:=fun X hX=>str_any modB ZdT X hX
 simp only[Db] at HC
 refine(HC _ ((HP.To.end H (Aa SS) rfl).tabs H hT).1).mono ?_
 clear HC
 rintro _ Y ⟨rfl,hb⟩
 replace SS:=Ab ((Aa SS).on hb)
 clear hb
 go_wp2_with (first|go_skip|((with_reducible show wpList ..);first|(refine rd rfl (ex_bMod (Ry modB) rfl rfl) ?_)|(refine zA 48 (Ar.cs) (by rfl) rfl SS ?_;clear SS;intro Xd Bd SS;simp only[nn])|(refine zS (Zay.cs) 2 48 (by rfl) rfl rfl rfl rfl (Gf _) szD SS rfl ?_;clear SS;intro Xz SS;simp only[nn])|(refine rd rfl (Ml rfl rfl ((Aa SS).emp 1 rfl)) ?_)|(refine rd rfl (ldE rfl rfl) ?_)|(refine rd rfl (ldA rfl rfl) ?_)|(refine rd rfl (ex_bTag rfl) ?_)|(refine zL (Zay.cs) 48 18 2 rwD szD (by rfl) rfl rfl SS rfl rfl rfl ?_;simp only[nn])))
 have T0:h.To h w _:=HP.To.end H (Aa SS) rfl
 have HD:=Vt h j q Gg Zay _ ((Aa SS).hp 0 rfl) hl hj (T0.tabs H hT) ZcQ Za0 (by rw[Ya hp];exact⟨show 0<2^64 by decide,show 0<2^64 by decide,show 0<2^64 by decide⟩) mod_fd (by omega)
 rw[Dg,Lh] at HD
 refine HD.mono ?_
 clear HD
 rintro _ Y1 ⟨h1,y,rfl,hP,T1⟩
 replace SS:=Ab ((Aa SS).heap 0 rfl T1)
 have hb1:h1.b=h.b:=T1.hb
 clear T1
 obtain⟨hy,hP⟩:=hP
 rw[Ya hp,hx,app_mod] at hy
 rcases hP with ⟨h0, -⟩|⟨-,T',rfl,hlT,hpT⟩
 ·rw[hy] at h0
  cases h0
 rw[Ya hp,hx,appd_mod,hp] at hpT
 have HLA:Hid (LayP h j q ((h.tab j q T').shut j {q with T:=T'})):=Ab ⟨T',rfl,hlT,hpT⟩
 clear hlT hpT hy
 rw[←hb1]
 go_wp2_with (first|go_skip|((with_reducible show wpList ..);first|(refine rd rfl (Ml rfl rfl ((Aa SS).emp 1 rfl)) ?_)|(refine rd rfl (ldE rfl rfl) ?_)|(refine rd rfl (ldA rfl rfl) ?_)))
 refine(Ua (h.tab j q T') j {q with T:=T'} _ ((Aa SS).hp 0 rfl) (by rw[tab_len];exact hl) (tab_at hj T')).mono ?_
 rintro _ Y2 ⟨rfl,T2⟩
 replace SS:=Ab ((Aa SS).heap 0 rfl T2)
 have hb2:=T2.hb
 clear T2
 go_wp2
 refine bodyPost_end (results_none rfl _ _ _) rfl ?_
 exact⟨_,rfl,Aa HLA,HP.To.end H (Aa SS) (hb2.trans hb1)⟩
theorem Sy.hpw {w X:World} {h:HP} {L:List Ob} (H:h.Is w) (S:Sy w X [] L):Sy w X h.blocks (hpO h::L):=by
 refine⟨⟨S.fr.os,S.fr.tape,S.fr.output,S.fr.size,fun k hk _=>S.fr.block k hk (by simp)⟩,fun o ho=> ?_,fun o ho=> ?_,fun o ho b hb=> ?_, ?_⟩
 ·rcases List.mem_cons.1 ho with rfl|ho
  ·exact Xp h
  ·exact S.ok o ho
 ·rcases List.mem_cons.1 ho with rfl|ho
  ·exact H.on S.fr.below
  ·exact S.ho o ho
 ·rcases List.mem_cons.1 ho with rfl|ho
  ·exact .inl hb
  ·exact(S.lo o ho b hb).elim (fun h=>by cases h) .inr
 ·rw[List.pairwise_cons]
  refine⟨fun o ho x hx hxo=> ?_,S.dis⟩
  have h1:x<w.heap.size:=H.lt x hx
  rcases S.lo o ho x hxo with h2|h2
  ·cases h2
  ·omega
theorem Sy.takeX {w X:World} {E:List Nat} {h:HP} {p:EX} {M:List Ob} (S:Sy w X E (hpO h::exO p::M)) (h0:h.e.bs= []) (h6:6<=w.heap.size) (hE: ∀x∈p.blocks,w.heap.size<=x):Sy w X E [hpO (h.ex p)]:=by
 have H:h.Is X:=S.get 0 rfl
 have P:p.Is X:=S.get 1 rfl
 have hd: ∀x∈(exO p).bs,x ∉ h.blocks:=fun x hx hx2=>Yt S.dis (i:=0) (j:=1) (a:=hpO h) (b:=exO p) rfl rfl (by decide) x hx2 hx
 have H2:(h.ex p).Is X:=H.take (e':=exO p) (Pb p) P h0 hd (fun x hx=>Nat.le_trans h6 (hE x hx))
 exact Sy.join (L:= []) (c:=hpO (h.ex p)) S (Xp _) H2 (fun x hx=>HP.take_blocks (h:=h) (e':=exO p) (Pb p) x hx)
def MadeX (h:HP) (ns:List ByteArray) (h1:HP) (p:EX):Prop:=NewX ns p/\ ∃q,NX h1 q p 1/\h1.b=h.b/\h1.fuel=h.fuel/\h1.ent=h.ent/\h1.depth=h.depth
theorem made_of {h:HP} {ns:List ByteArray} {gv:Value} {q:OB} {p:EX} {h1:HP} (K:h.Ok) (h0:h.l= []) (hN:NewX ns p) (e2:q.p=nullV) (e3:q.x=true) (e4:q.m=true) (e5:q.ow=some (88, .pointer (some ⟨p.b,0,none⟩))) (e6:pr q.T= []) (e7:q.T.last=0) (hL:LayP ((h.more gv q).ex p) 0 q h1):MadeX h ns h1 p:=by
 obtain⟨T',rfl,hl,hp⟩:=hL
 refine⟨hN,{q with T:=T',x:=false},⟨?_,e5,rfl,hN.W,⟨fun a ha=> ?_⟩,e4,rfl,e2,⟨Zay,hp,rfl,mod_fd⟩, ?_,⟨?_,K.f0,K.f1,K.e0,K.e1,K.d1⟩⟩,rfl,rfl,rfl,rfl⟩
 ·show ((h.l++ [q]).set 0 _).set 0 _=_
  rw[h0]
  rfl
 ·rw[hN.z a ha]
  decide
 ·show T'.last<=1
  omega
 ·show (((h.l++ [q]).set 0 _).set 0 _).length<=_
  rw[h0]
  simp
theorem ZdR:El 0 nullV=0:=by kernel_rfl
theorem Ou (h:HP) (A:Option Addr) (c:Nat) (ns:List ByteArray) (w:World) (H:h.Is w) (hT:Tabs w) (hR:ReadsN w A ns) (hz:ns.length<=1000) (hE:Ko ns≠0):Calls prog 9 #[.pointer (some ⟨h.b,0,none⟩), .slice A ns.length c] w fun e w'=>e= .returned (.tuple #[.int .i64 0, .iface 29 (.int .i64 5)])/\Below w.heap.size w w':=by
 have SS:=Ab (Sy.nil w [])
 have HT:=Ab hT
 clear hT
 go_enter func9,ntmps9
 go_wp2_with fail
 refine(Nj A c ns _ (Al (Aa HT).1 (Aa SS).fr.below) (hR.fr (Aa SS).fr) hz).mono ?_
 rintro _ Y0 ⟨rfl,hb⟩
 replace SS:=Ab ((Aa SS).on hb)
 clear hb
 have h5:Ko ns=5:=by
   unfold Ko at hE ⊢
   split
   ·rename_i h
    rw[if_pos h] at hE
    exact absurd rfl hE
   ·rfl
 rw[h5]
 go_wp2_with fail
 go_ret2
 exact⟨rfl,(Aa SS).fr.below⟩
theorem new_ns (h:HP) (A:Option Addr) (c:Nat) (ns:List ByteArray) (w:World) (H:h.Is w) (hT:Tabs w) (K:h.Ok) (h0:h.l= []) (he:h.e=noO) (hcap:1<=h.cap) (hR:ReadsN w A ns) (hz:ns.length<=1000) (hE:Ko ns=0):Calls prog 9 #[.pointer (some ⟨h.b,0,none⟩), .slice A ns.length c] w fun e w'=> ∃(h1:HP) (p:EX),e= .returned (.tuple #[.int .i64 1, .nilIface])/\MadeX h ns h1 p/\h.To h1 w w':=by
 have SS:=Ab (Sy.nil w [])
 have HT:=Ab hT
 clear hT
 go_enter func9,ntmps9
 go_wp2_with fail
 refine(Nj A c ns _ (Al (Aa HT).1 (Aa SS).fr.below) (hR.fr (Aa SS).fr) hz).mono ?_
 rintro _ Y0 ⟨rfl,hb⟩
 replace SS:=Ab ((Aa SS).on hb)
 clear hb
 rw[hE]
 go_wp2_with fail
 refine(Gw _).mono ?_
 rintro _ Y1 ⟨rfl,hb⟩
 replace SS:=Ab ((Aa SS).on hb)
 clear hb
 go_wp2_with fail
 have h7:=H.big
 refine(Vx A c ns _ (Al (Aa HT).1 (Aa SS).fr.below) (by have:=(Aa SS).fr.size;omega) (hR.fr (Aa SS).fr) hE hz).mono ?_
 rintro _ Y2 ⟨p,rfl,hN,hI,hb,hf⟩
 have hsz:=(Aa SS).fr.size
 have hpl: ∀x∈p.blocks,w.heap.size<=x:=fun x hx=>Nat.le_trans hsz (hf x hx)
 replace SS:=Ab (Sy.hpw H ((Aa SS).add (o:=exO p) (Pb p) hI hb hf))
 clear hb hf hsz hI
 have HN:=Ab hN
 clear hN
 go_wp2_with fail
 have T0:h.To h w _:=HP.To.end H (Aa SS) rfl
 have HA:=add_h h nullV 10 true (some (88, .pointer (some ⟨p.b,0,none⟩))) _ ((Aa SS).hp 0 rfl) (T0.tabs H (Aa HT)) K.len
 have ho:orE [El h.l.length nullV,Dr nullV,Kw h]=0:=by
   rw[h0]
   have hr:Kw h=0:=by
    unfold Kw
    rw[h0,if_neg (by simp;omega)]
   rw[hr]
   show orE [El 0 nullV,_,_]=0
   rw[ZdR]
   rfl
 rw[ho] at HA
 refine HA.mono ?_
 clear HA T0
 rintro _ Y3 (⟨-,h9, -⟩|⟨-,gv,q,rfl,e1,e2,e3,e4,e5,e6,e7,TA⟩)
 ·exact absurd rfl h9
 have hb1:(h.more gv q).b=h.b:=TA.hb
 have SS2:=(Aa SS).heap 0 rfl TA
 replace SS:=Ab (Sy.takeX SS2 (by show h.e.bs= [];rw[he];rfl) (by omega) hpl)
 clear SS2 TA ho
 rw[show ((h.l.length:Int)+1)=((0:Nat):Int)+1 by rw[h0];rfl]
 go_wp2_with (first|go_skip|((with_reducible show wpList ..);first|(refine rd rfl (ex_b87 rfl) ?_)))
 have hq0:((h.more gv q).ex p).l[0]? =some q:=by
   show (h.l++ [q])[0]? =some q
   rw[h0]
   rfl
 have T0:h.To ((h.more gv q).ex p) w _:=HP.To.end H (Aa SS) hb1
 refine(lay_ns ((h.more gv q).ex p) 0 q _ ((Aa SS).hp 0 rfl) (T0.tabs H (Aa HT)) (by show (h.l++ [q]).length<=_;rw[h0];simp) hq0 e3 e6 e7).mono ?_
 rintro _ Y4 ⟨h1,rfl,hL,T1⟩
 replace SS:=Ab ((Aa SS).heap 0 rfl T1)
 have hb2:=T1.hb
 clear T1 T0 hq0
 have HM:=Ab (made_of K h0 (Aa HN) e2 e3 e4 e5 e6 e7 hL)
 clear hL
 go_wp2_with fail
 go_ret2
 exact⟨h1,p,rfl,Aa HM,HP.To.end H (Aa SS) (hb2.trans hb1)⟩
section
variable {md : Region.Mode} {ops : Array Oper} {Q : Exit → Act → World → Prop} {S : World → Prop} {w w0 : World} {fuel : Nat} {listed : Array Bool} {a : Act} {o : Oper} {E : List Nat} {L : List Ob}
theorem gstE {α:Type} (f:α->List Value) (kk:Nat) (hk: ∀a,(f a).length=kk) {base ety g c n j p q:Nat} {l:List α} {x' x0:α} {vs:List Value} {v:Value} {x y:Operand} {rs:List Nat} (k:Nat) (ty:TypeId) (i:Nat) (hi':ops[i]? =some o) (hd:o.dst=none) (hw:Region.wanted o (yielded ops a.tmps)=true) (ho:o.op= .store ty x y) (hx:a.eval x= .pointer (some ⟨g,q,none⟩)) (hy:a.eval y=v)
  (hv:v.cells.toList=vs) (h1: ∀u∈vs,u.oneCell'=true) (hi:(prog.info? ty).map (·.size)=some vs.length) (hL:Sy w0 w E L) (hg:L[k]? =some (Do base ety kk (.slice (some ⟨g,0,none⟩) n c) n (l.flatMap f))) (hr:l[j]? =some x0) (hp:p+vs.length<=kk) (he:Bz (f x0) p vs=f x') (hq:q=0+j * kk+p) (hS: ∀X,S X)
  (h: ∀X,Sy w0 X E (L.set k (Do base ety kk (.slice (some ⟨g,0,none⟩) n c) n ((l.set j x').flatMap f)))->wpAnyH prog md ops Q S fuel (listed.setIfInBounds i true) (a.put none undef) X) (hrs:AllReadyH prog md ops Q S fuel listed a w rs):AllReadyH prog md ops Q S fuel listed a w (i::rs):=by
 subst hq
 have hj:=(List.getElem?_eq_some_iff.1 hr).1
 have hlen:0+j * kk+p+vs.length<=(l.flatMap f).length:=by
  rw[Kf f kk hk]
  have h2:(j+1) * kk<=l.length * kk:=Nat.mul_le_mul_right kk hj
  rw[Nat.add_mul] at h2
  omega
 have hC:=hL.cell k hg (p:=0+j * kk+p) (vs:=vs) hlen
 rw[flat_put f kk hk hr hp he] at hC
 have hE:(execOp a.eval o).run prog w= .ok .skip (w.setCells g (0+j * kk+p) vs):=by
  unfold execOp
  simp only[ho,hx,hy,Instr.storeAt,Instr.sureAddr,Sem.run_bind,Sem.run_pure,Result.andThen_ok,Dt w g (0+j * kk+p) ty v vs hv (ZdL (hL.get k hg) hlen) hi h1]
 exact Qj i none hi' hd hw hE (hS _) (h _ hC) hrs
end
def EX.put (p:EX) (i:Nat) (s:ByteArray) (v:VV):EX:={p with l:=p.l.set i ⟨s,v⟩}
theorem put_len (p:EX) (i:Nat) (s:ByteArray) (v:VV):(p.put i s v).l.length=p.l.length:=by simp[EX.put]
theorem Wf.put {p:EX} (W:p.Wf) {i:Nat} {s:ByteArray} {v:VV} (hi:p.pF s=some i):(p.put i s v).Wf:=by
 obtain⟨v0,h0⟩:=W.hit s i hi
 have hlt:=(List.getElem?_eq_some_iff.1 h0).1
 have hs:s.size<=1048576:=W.sz ⟨s,v0⟩ (List.mem_of_getElem? h0)
 refine⟨fun t j hj=> ?_,fun j a ha=> ?_,fun a ha=> ?_,by rw[put_len];exact W.len⟩
 ·show ∃u,(p.l.set i ⟨s,v⟩)[j]? =some ⟨t,u⟩
  obtain⟨u,hu⟩:=W.hit t j hj
  by_cases e:i=j
  ·subst e
   rw[h0] at hu
   cases hu
   exact⟨v,List.getElem?_set_self hlt⟩
  ·exact⟨u,by rw[List.getElem?_set_ne e];exact hu⟩
 ·have ha:(p.l.set i ⟨s,v⟩)[j]? =some a:=ha
  by_cases e:i=j
  ·subst e
   rw[List.getElem?_set_self hlt] at ha
   cases ha
   exact hi
  ·rw[List.getElem?_set_ne e] at ha
   exact W.all j a ha
 ·rcases List.mem_or_eq_of_mem_set ha with h|h
  ·exact W.sz a h
  ·rw[h]
   exact hs
theorem Vals.put {p:EX} (V:Vals p) {i:Nat} {s:ByteArray} {v:VV} (hv:v.s.size<=1048576):Vals (p.put i s v):=⟨fun a ha=>by
 rcases List.mem_or_eq_of_mem_set ha with h|h
 ·exact V.sz a h
 ·rw[h]
  exact hv⟩
theorem ZbK {p:EX} (W:p.Wf) {i:Nat} {s:ByteArray} {v:VV} (hi:p.pF s=some i) (t:ByteArray):(p.put i s v).find t=if t=s then some ⟨s,v⟩ else p.find t:=by
 obtain⟨v0,h0⟩:=W.hit s i hi
 have hlt:=(List.getElem?_eq_some_iff.1 h0).1
 show (p.pF t).bind (fun j=>(p.l.set i ⟨s,v⟩)[j]?)=_
 by_cases e:t=s
 ·subst e
  rw[if_pos rfl,hi]
  show (p.l.set i ⟨t,v⟩)[i]? =_
  exact List.getElem?_set_self hlt
 ·rw[if_neg e]
  show _=(p.pF t).bind (fun j=>p.l[j]?)
  cases hj:p.pF t with
  |none=>rfl
  |some j=>
   have hne:i≠j:=fun h=>by
    subst h
    obtain⟨u,hu⟩:=W.hit t i hj
    rw[h0] at hu
    cases hu
    exact e rfl
   exact List.getElem?_set_ne hne
theorem Zr {p:EX} (W:p.Wf) {i:Nat} {s:ByteArray} {v:VV} (hi:p.pF s=some i):(p.put i s v).l.map (·.n)=p.l.map (·.n):=by
 obtain⟨v0,h0⟩:=W.hit s i hi
 show (p.l.set i ⟨s,v⟩).map (·.n)=_
 rw[List.map_set]
 apply List.ext_getElem?
 intro j
 by_cases e:i=j
 ·subst e
  rw[List.getElem?_map,h0,List.getElem?_set_self (by rw[List.length_map];exact(List.getElem?_eq_some_iff.1 h0).1)]
  rfl
 ·rw[List.getElem?_set_ne e]
theorem bind_no (p:EX) (s:ByteArray) (v:VV) (w:World) (H:p.Is w) (W:p.Wf) (hs:okN s) (hf:p.pF s=none):Calls prog 38 #[.pointer (some ⟨p.b,0,none⟩), .string s,v.agg] w fun e w'=>e= .returned (.int .i64 7)/\Below w.heap.size w w':=by
 have SS:=Ab (Sy.nil w [])
 rw[Db]
 have HR:=Ab (rN hf)
 go_enter func38,ntmps38
 go_wp2_with (first|go_skip|((with_reducible show wpList ..);first|(refine zB 26 (v.cs) (by rfl) rfl rfl rfl SS ?_;clear SS;intro Xa Ba SS;simp only[nn])|(refine rd rfl (Ag 126 isAgg126 rfl rfl ((H.on ((Aa SS).fr.below)).box) rfl) ?_)|(refine rd rfl (ZaG rfl rfl rfl (H.on ((Aa SS).fr.below)).map hs (Aa HR)) ?_)))
 go_ret
 exact⟨rfl,(Aa SS).fr.below⟩
theorem bind_yes (p:EX) (s:ByteArray) (v:VV) (i:Nat) (w:World) (H:p.Is w) (W:p.Wf) (hs:okN s) (hz:v.s.size<=1048576) (hf:p.pF s=some i):Calls prog 38 #[.pointer (some ⟨p.b,0,none⟩), .string s,v.agg] w fun e w'=>e= .returned (.int .i64 0)/\p.To (p.put i s v) w w':=by
 have HR:=Ab (rY hf)
 obtain⟨v0,h2⟩:=W.hit s i hf
 obtain⟨a0,ha⟩: ∃a0:BN,a0=⟨s,v0⟩:=⟨_,rfl⟩
 rw[←ha] at h2
 have ha0:a0.n=s:=by rw[ha]
 clear ha
 obtain⟨g,c,e1, -⟩:=H.at h2
 have hil:i<p.l.length:=(List.getElem?_eq_some_iff.1 h2).1
 obtain⟨q,hq⟩: ∃q,q=0+i * 6:=⟨_,rfl⟩
 have HQ:=Ab hq
 have HAN:=fun X=>Zak v X hz
 have SS:Hid (Sy w w p.blocks [Ao p.b ([.slice (some ⟨g,0,none⟩) p.l.length c, .map (some p.pb)]),Do 0 130 6 (.slice (some ⟨g,0,none⟩) p.l.length c) p.l.length (p.l.flatMap BN.cs),Eb iR iD 0 p.pb p.pn p.pF]):=Ab (by
   have:=H.sy
   unfold EX.things ecs at this
   rwa [e1] at this)
 clear hq
 simp only[Db] at HAN ⊢
 go_enter func38,ntmps38
 go_wp2_with (first|go_skip|((with_reducible show wpList ..);first|(refine zB 26 (v.cs) (by rfl) rfl rfl rfl SS ?_;clear SS;intro Xv Bv SS;simp only[nn])|(refine rd rfl (Ag 126 isAgg126 rfl rfl ((Aa SS).hold 0 rfl) rfl) ?_)|(refine rd rfl (ZaG rfl rfl rfl ((Aa SS).get 2 rfl) hs (Aa HR)) ?_)))
 have hS4:Sy w _ p.blocks [Ao p.b ([.slice (some ⟨g,0,none⟩) p.l.length c, .map (some p.pb)]),Do 0 130 6 (.slice (some ⟨g,0,none⟩) p.l.length c) p.l.length (p.l.flatMap BN.cs),Eb iR iD 0 p.pb p.pn p.pF,Ao Bv v.cs]:=(Aa SS).drew
 clear SS HR
 refine wp_region_held_drew (P:=prog) (S:=fun _=>True) (by kernel_rfl) (trivial) (fun hS0=> ?_)
 refine gp 0 (some 20) (.pointer (some ⟨p.b,0,none⟩)) rfl rfl (trivial) ?_
 refine gp 1 (some 21) (.pointer (some ⟨p.b,0,none⟩)) rfl rfl (trivial) ?_
 refine gp 2 (some 22) (.pointer (some ⟨p.b,0,none⟩)) rfl rfl (trivial) ?_
 refine gp 4 (some 24) (.int .i64 (i:Nat)) rfl rfl (trivial) ?_
 refine gr (rs:= [3,5]) (gv 3 (some 23) rfl rfl (Ag 125 isAgg125 rfl rfl (hS4.hold 0 rfl) rfl) (trivial) ?_ (gv 5 (some 25) rfl rfl (Am (vs:=v.cs) 26 5 rwV szV rfl rfl (hS4.hold 3 rfl) rfl rfl) (trivial) ?_ gn))
 ·simp only[nn]
  refine gr (rs:= [5]) (gv 5 (some 25) rfl rfl (Am (vs:=v.cs) 26 5 rwV szV rfl rfl (hS4.hold 3 rfl) rfl rfl) (trivial) ?_ gn)
  simp only[nn]
  refine gr (rs:= [6]) (gc 6 (some 26) rfl rfl (HAN _) ?_ gn)
  rintro e Yt3 ⟨rfl,hYt3⟩
  have hqt3:=Sy.on hS4 hYt3
  refine⟨_,rfl,trivial, ?_⟩
  refine gq 7 (some 27) (.pointer (some ⟨g,q,none⟩)) rfl rfl (fun X hX=>Oz q i rfl rfl rfl hil (Aa HQ)) (trivial) ?_
  refine gp 8 (some 28) (.pointer (some ⟨g,q+1,none⟩)) rfl rfl (trivial) ?_
  refine gr (rs:= [9]) (gstE BN.cs 6 Lw (l:=p.l) (x0:=a0) (x':=⟨s,v⟩) (j:=i) (p:=1) (q:=q+1) (vs:=v.cs) 1 26 9 rfl rfl (by kernel_rfl) rfl rfl rfl rfl (Ex _) szV hqt3 rfl h2 (by simp[VV.cs]) (by simp[Bz,BN.cs,VV.cs,ha0]) (by rw[Aa HQ]) (fun _=>trivial) ?_ gn)
  intro Yt4 hqt4
  refine dn ?_
  try simp only[nn]
  have SS:=Ab hqt4
  clear hqt4
  go_wp2
  go_ret
  exact⟨rfl,EX.To.end (M:= [Ao Bv v.cs]) (Aa SS) (by unfold EX.things EX.put ecs;simp only[e1,List.length_set];rfl)⟩
 ·simp only[nn]
  refine gr (rs:= [3,6]) (gv 3 (some 23) rfl rfl (Ag 125 isAgg125 rfl rfl (hS4.hold 0 rfl) rfl) (trivial) ?_ (gc 6 (some 26) rfl rfl (HAN _) ?_ gn))
  ·simp only[nn]
   refine gr (rs:= [6]) (gc 6 (some 26) rfl rfl (HAN _) ?_ gn)
   rintro e Yt7 ⟨rfl,hYt7⟩
   have hqt7:=Sy.on hS4 hYt7
   refine⟨_,rfl,trivial, ?_⟩
   refine gq 7 (some 27) (.pointer (some ⟨g,q,none⟩)) rfl rfl (fun X hX=>Oz q i rfl rfl rfl hil (Aa HQ)) (trivial) ?_
   refine gp 8 (some 28) (.pointer (some ⟨g,q+1,none⟩)) rfl rfl (trivial) ?_
   refine gr (rs:= [9]) (gstE BN.cs 6 Lw (l:=p.l) (x0:=a0) (x':=⟨s,v⟩) (j:=i) (p:=1) (q:=q+1) (vs:=v.cs) 1 26 9 rfl rfl (by kernel_rfl) rfl rfl rfl rfl (Ex _) szV hqt7 rfl h2 (by simp[VV.cs]) (by simp[Bz,BN.cs,VV.cs,ha0]) (by rw[Aa HQ]) (fun _=>trivial) ?_ gn)
   intro Yt8 hqt8
   refine dn ?_
   try simp only[nn]
   have SS:=Ab hqt8
   clear hqt8
   go_wp2
   go_ret
   exact⟨rfl,EX.To.end (M:= [Ao Bv v.cs]) (Aa SS) (by unfold EX.things EX.put ecs;simp only[e1,List.length_set];rfl)⟩
  ·rintro e Yt9 ⟨rfl,hYt9⟩
   have hqt9:=Sy.on hS4 hYt9
   refine⟨_,rfl,trivial, ?_⟩
   simp only[nn]
   refine gr (rs:= [3]) (gv 3 (some 23) rfl rfl (Ag 125 isAgg125 rfl rfl (hqt9.hold 0 rfl) rfl) (trivial) ?_ gn)
   refine gq 7 (some 27) (.pointer (some ⟨g,q,none⟩)) rfl rfl (fun X hX=>Oz q i rfl rfl rfl hil (Aa HQ)) (trivial) ?_
   refine gp 8 (some 28) (.pointer (some ⟨g,q+1,none⟩)) rfl rfl (trivial) ?_
   refine gr (rs:= [9]) (gstE BN.cs 6 Lw (l:=p.l) (x0:=a0) (x':=⟨s,v⟩) (j:=i) (p:=1) (q:=q+1) (vs:=v.cs) 1 26 9 rfl rfl (by kernel_rfl) rfl rfl rfl rfl (Ex _) szV hqt9 rfl h2 (by simp[VV.cs]) (by simp[Bz,BN.cs,VV.cs,ha0]) (by rw[Aa HQ]) (fun _=>trivial) ?_ gn)
   intro Yt11 hqt11
   refine dn ?_
   try simp only[nn]
   have SS:=Ab hqt11
   clear hqt11
   go_wp2
   go_ret
   exact⟨rfl,EX.To.end (M:= [Ao Bv v.cs]) (Aa SS) (by unfold EX.things EX.put ecs;simp only[e1,List.length_set];rfl)⟩
theorem th_in {j n:Nat} (h:j<n):thE ((j:Int)+1) n=0:=by
 have:Rj ((j:Int)+1) n=true:=by unfold Rj;simp;omega
 unfold thE
 rw[this]
 rfl
theorem class_h (h:HP) (j:Nat) (q:OB) (w:World) (H:h.Is w) (hl:h.l.length<=65536) (hj:h.l[j]? =some q):Calls prog 69 #[.pointer (some ⟨h.b,0,none⟩), .int .i64 ((j:Int)+1)] w fun e w'=>e= .returned (.tuple #[.int .i64 q.c, .int .i64 0])/\w'=w:=by
 have hlt:=(List.getElem?_eq_some_iff.1 hj).1
 have HO:=Ab (H.ob hj).1
 go_enter func69,ntmps69
 go_wp2_with fail
 refine(Je h _ _ H).mono ?_
 rintro _ _ ⟨rfl,rfl⟩
 rw[th_in hlt]
 go_wp2_with fail
 refine(Pf h j q _ H hj hl).mono ?_
 rintro _ _ ⟨rfl,rfl⟩
 go_wp2_with (first|go_skip|((with_reducible show wpList ..);first|(refine rd rfl (Ag 3 isAgg3 rfl rfl (Aa HO) rfl) ?_)))
 go_ret2
 exact⟨rfl,rfl⟩
theorem Zbx (h:HP) (j:Nat) (q:OB) (p:EX) (w:World) (H:h.Is w) (N:NS h j q p):Calls prog 37 #[.pointer (some ⟨h.b,0,none⟩), .int .i64 ((j:Int)+1)] w fun e w'=>e= .returned (.tuple #[.pointer (some ⟨p.b,0,none⟩), .int .i64 0])/\w'=w:=by
 go_enter func37,ntmps37
 go_wp2_with fail
 refine(class_h h j q _ H N.hl N.hj).mono ?_
 rintro _ _ ⟨rfl,rfl⟩
 go_wp2_with fail
 refine(Zcz h j q p _ H N.hl N.hj N.ow).mono ?_
 rintro _ _ ⟨rfl,rfl⟩
 go_wp2_with fail
 go_ret2
 exact⟨rfl,rfl⟩
theorem chk_ok {n:Nat} {v:VV} (h:El n v=0):v.good=true:=by
 unfold El at h
 split at h
 ·assumption
 ·cases h
theorem Bind_no (h:HP) (j:Nat) (q:OB) (p:EX) (s:ByteArray) (v:VV) (w:World) (H:h.Is w) (hT:Tabs w) (N:NS h j q p) (hs:okN s) (hc:El h.l.length v=0) (hf:p.pF s=none):Calls prog 14 #[.pointer (some ⟨h.b,0,none⟩), .int .i64 ((j:Int)+1), .string s,v.agg] w fun e w'=>e= .returned (.int .i64 7)/\h.To h w w':=by
 have SS:=Ab H.start
 have HV:=fun X (hX:h.Is X) (hT2:Lib.Utf8Tabs 1 2 X)=>Qv h v X hX hT2
 rw[hc] at HV
 simp only[Db] at HV ⊢
 go_enter func14,ntmps14
 go_wp2_with (first|go_skip|((with_reducible show wpList ..);first|(refine zB 26 (v.cs) (by rfl) rfl rfl rfl SS ?_;clear SS;intro Xv Bv SS;simp only[nn])))
 refine(Zbx h j q p _ ((Aa SS).hp 0 rfl) N).mono ?_
 rintro _ _ ⟨rfl,rfl⟩
 go_wp2_with (first|go_skip|((with_reducible show wpList ..);first|(refine zL (v.cs) 26 5 1 rwV szV (by rfl) rfl rfl SS rfl rfl rfl ?_;simp only[nn])))
 refine(HV _ ((Aa SS).hp 0 rfl) ((HP.To.end H (Aa SS) rfl).tabs H hT).1).mono ?_
 clear HV
 rintro _ Y ⟨rfl,hb⟩
 replace SS:=Ab ((Aa SS).on hb)
 clear hb
 go_wp2_with (first|go_skip|((with_reducible show wpList ..);first|(refine zL (v.cs) 26 5 1 rwV szV (by rfl) rfl rfl SS rfl rfl rfl ?_;simp only[nn])))
 have HX:=bind_no p s v _ (HP.Is.exs ((Aa SS).hp 0 rfl) N.he) N.W hs hf
 rw[Db] at HX
 refine HX.mono ?_
 clear HX
 rintro _ Y2 ⟨rfl,hb⟩
 replace SS:=Ab ((Aa SS).on hb)
 clear hb
 go_wp2_with fail
 go_ret
 exact⟨rfl,HP.To.end H (Aa SS) rfl⟩
theorem Zb2 (h:HP) (j:Nat) (q:OB) (p:EX) (s:ByteArray) (v:VV) (i:Nat) (w:World) (H:h.Is w) (hT:Tabs w) (N:NS h j q p) (hs:okN s) (hc:El h.l.length v=0) (hf:p.pF s=some i):Calls prog 14 #[.pointer (some ⟨h.b,0,none⟩), .int .i64 ((j:Int)+1), .string s,v.agg] w fun e w'=>e= .returned (.int .i64 0)/\h.To (h.ex (p.put i s v)) w w':=by
 have SS:=Ab H.start
 have HV:=fun X (hX:h.Is X) (hT2:Lib.Utf8Tabs 1 2 X)=>Qv h v X hX hT2
 rw[hc] at HV
 simp only[Db] at HV ⊢
 go_enter func14,ntmps14
 go_wp2_with (first|go_skip|((with_reducible show wpList ..);first|(refine zB 26 (v.cs) (by rfl) rfl rfl rfl SS ?_;clear SS;intro Xv Bv SS;simp only[nn])))
 refine(Zbx h j q p _ ((Aa SS).hp 0 rfl) N).mono ?_
 rintro _ _ ⟨rfl,rfl⟩
 go_wp2_with (first|go_skip|((with_reducible show wpList ..);first|(refine zL (v.cs) 26 5 1 rwV szV (by rfl) rfl rfl SS rfl rfl rfl ?_;simp only[nn])))
 refine(HV _ ((Aa SS).hp 0 rfl) ((HP.To.end H (Aa SS) rfl).tabs H hT).1).mono ?_
 clear HV
 rintro _ Y ⟨rfl,hb⟩
 replace SS:=Ab ((Aa SS).on hb)
 clear hb
 go_wp2_with (first|go_skip|((with_reducible show wpList ..);first|(refine zL (v.cs) 26 5 1 rwV szV (by rfl) rfl rfl SS rfl rfl rfl ?_;simp only[nn])))
 have HX:=bind_yes p s v i _ (HP.Is.exs ((Aa SS).hp 0 rfl) N.he) N.W hs (Xs (chk_ok hc)) hf
 rw[Db] at HX
 refine HX.mono ?_
 clear HX
 rintro _ Y2 ⟨rfl,TX⟩
 have T1:=HP.Is.xto ((Aa SS).hp 0 rfl) N.he TX
 replace SS:=Ab ((Aa SS).heap 0 rfl T1)
 clear T1 TX
 go_wp2_with fail
 go_ret
 exact⟨rfl,HP.To.end H (Aa SS) rfl⟩
