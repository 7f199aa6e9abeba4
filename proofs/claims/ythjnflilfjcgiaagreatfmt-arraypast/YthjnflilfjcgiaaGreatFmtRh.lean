import Derived.Test.YthjnflilfjcgiaaGreatFmtRg
set_option linter.all false
namespace Go.Proofs.YthjnflilfjcgiaaGreatFmt
set_option maxRecDepth 100000
set_option maxHeartbeats 0
section
open Go Go.Proofs Go.Maps Go.RowKit FM
theorem Zdf (c:Nat) (t:List Nat) (h:c<128):M.dec (c::t)=(c,1):=by
 have hg:M.goD (c::t)=(c,1):=by
  unfold M.goD
  simp[h]
 unfold M.dec
 rw[hg]
 have: ¬(c=65533/\1<=1):=by omega
 simp[this]
 omega
theorem Zas (l:List Nat) (h: ∀c∈l,c<128):M.valid false l=true:=by
 induction l with
 |nil=>rfl
 |cons c t ih=>
  have hc:=h c (List.mem_cons_self ..)
  have hi:M.isHi c=false:=by unfold M.isHi;simp;omega
  rw[M.valid_step false _ (by simp),Zdf c t hc]
  simp[hi]
  exact ih (fun x hx=>h x (List.mem_cons_of_mem _ hx))
theorem dec_mem (u:Nat): ∀c∈Lib.decDigits u,c.toNat<128:=by
 induction u using Nat.strongRecOn with
 |_ u ih=>
  intro c hc
  by_cases h:u<10
  ·rw[Lib.decDigits,dif_pos h] at hc
   rw[List.mem_singleton.1 hc]
   simp;omega
  ·rw[Lib.decDigits,dif_neg h] at hc
   rcases List.mem_append.1 hc with h1|h1
   ·exact ih (u / 10) (by omega) c h1
   ·rw[List.mem_singleton.1 h1]
    simp;omega
theorem dec_len (u:Nat):(Lib.decDigits u).length<=u+1:=by
 induction u using Nat.strongRecOn with
 |_ u ih=>
  by_cases h:u<10
  ·rw[Lib.decDigits,dif_pos h]
   simp
  ·rw[Lib.decDigits,dif_neg h,List.length_append]
   have:=ih (u / 10) (by omega)
   simp
   omega
theorem Mf {u:Nat} (h:u<=1000000):goodK (De u)=true:=by
 rw[Za5]
 have h1:(Mg u).size<=1048576:=by
  have:=dec_len u
  show (Lib.decDigits u).toArray.size<=_
  simp
  omega
 have h2:vS (Mg u)=true:=by
  unfold vS
  refine Zas _ (fun c hc=> ?_)
  unfold Dn at hc
  obtain⟨b,hb,rfl⟩:=List.mem_map.1 hc
  exact dec_mem u b hb
 simp[De,h1,h2]
theorem ZbO {u:Nat} (h:u<=1000000):OkK (De u):=Ua (Mf h)
theorem Zy {v:VV} (h:v.good=true):thV v=true:=by
 cases ht:thV v with
 |true=>rfl
 |false=>
  unfold thV at ht
  simp at ht
  obtain⟨⟨⟨⟨h1,h2⟩,h3⟩,h4⟩,h5⟩:=ht
  unfold VV.good Ke inG at h
  simp[h1] at h
theorem Yf {v:VV} (h:v.good=true):Bu (Kn v)=2:=by simp[Bu,Kn,Zy h,Gd]
theorem ZaL {v:VV} (h:v.good=true):Gb (Kn v)=2:=by
 have hs:Ge (Kn v)=true:=by simp[Ge,Kn,Zy h,h,Mu,Gd,Pd,Be];simp[thV]
 unfold Gb
 rw[hs,Yf h]
 rfl
theorem ZcB {v:VV} (h:v.good=true):Rl true Ap (Kn v)=true/\Du true Ap (Kn v)=Kn v:=by
 have hst:stV Ap=true:=by unfold stV;rw[Ko];rfl
 refine⟨?_, ?_⟩
 ·unfold Rl
  rw[ZaL h,hst,Ko]
  rfl
 ·unfold Du
  rw[ZaL h,hst,Ko]
  show Lf (Kn v)=Kn v
  unfold Lf
  rw[Yf h]
  simp[orV,orT,Kn,Zy h]
end
section
open Go Go.Proofs Go.Maps Go.RowKit FM Tryz
attribute [local go_sem] Ad Ag Ak Df Bi Ae Bg
theorem ex_c32 {o:Oper} {a:Act} {w:World} {x:Operand} {n:Nat} (ho:o.op= .convert 3 44 x) (hx:a.eval x= .int .i64 (n:Nat)) (hn:n<=4294967295):(execOp a.eval o).run prog w= .ok (.value (.int .u32 (n:Nat))) w:=by
 have e:IntKind.u32.wrap (n:Int)=(n:Int):=by rw[IntKind.wrap_u32];omega
 unfold execOp
 simp only[ho,hx]
 simp[go_sem,convert,e]
theorem ex_opn {o:Oper} {a:Act} {w:World} {x c1 c2 c3:Operand} (v:VV) (ho:o.op= .build 53 #[(0,x),(3,c1),(4,c2),(5,c3)]) (hx:a.eval x= .agg v.cs.toArray) (h1:a.eval c1= .int .i64 2) (h2:a.eval c2= .int .i64 2) (h3:a.eval c3= .int .i64 2):(execOp a.eval o).run prog w= .ok (.value (.agg (Kn v).cs.toArray)) w:=by
 have e:(Instr.build 53 #[(0, .agg v.cs.toArray),(3, .int .i64 2),(4, .int .i64 2),(5, .int .i64 2)]).run prog w= .ok (.agg (Kn v).cs.toArray) w:=by kernel_rfl
 unfold execOp
 simp only[ho,List.map_toArray,List.map_cons,List.map_nil,hx,h1,h2,h3]
 simp[e]
theorem kn_zero {n:Nat} {vs:List VV} (h:knE n vs=0) {i:Nat} {v:VV} (hv:vs[i]? =some v):v.good=true:=by
 have h1:=Pm h (Di n v) (List.mem_map.2 ⟨v,List.mem_of_getElem? hv,rfl⟩)
 unfold Di at h1
 cases hg:v.good with
 |true=>rfl
 |false=>rw[hg] at h1;cases h1
def LayI (h:HP) (vs:List VV) (w:World) (Ba i:Nat) (wr:World):Prop:= ∃(gv:Value) (q:OB),q.c=3/\q.x=true/\pr q.T=Qv vs.length (vs.take i)/\q.T.last<=1+i/\Sy w wr h.blocks [hpO (h.more gv q),Am Ba Dg.cs]
theorem lay_step {h h1:HP} {gv:Value} {q:OB} {vs:List VV} {i:Nat} {v:VV} {y:Bool} (hv:vs[i]? =some v) (hg:v.good=true) (hx:q.x=true) (hp:pr q.T=Qv vs.length (vs.take i)) (hP:Zap (h.more gv q) h.l.length q (De i) (Kn v) h1 y): ∃T':TT,h1=h.more gv {q with T:=T'}/\pr T'=Qv vs.length (vs.take (i+1))/\T'.last<=q.T.last+1:=by
 have hlt:=(List.getElem?_eq_some_iff.1 hv).1
 have hlen:(vs.take i).length=i:=by rw[List.length_take];omega
 have hz:getD q.T (De i)=Ap:=Qd hp (by omega)
 unfold Zap at hP
 rw[hz,hx,(ZcB hg).1,(ZcB hg).2] at hP
 obtain⟨rfl,hP⟩:=hP
 rcases hP with ⟨h0,_⟩|⟨_,T',rfl,hla,hpr⟩
 ·cases h0
 ·refine⟨T',ZaT h gv q T', ?_,hla⟩
  have hput:=arr_put vs.length (vs.take i) v
  rw[hlen] at hput
  rw[hpr,hp,hput,List.take_add_one,hv]
  rfl
theorem Je (h:HP) (B:Option Addr) (c:Nat) (vs:List VV) (w:World) (H:h.Is w) (hT:Tabs w) (HRV: ∀{X:World},Fr w X h.blocks->Qw X B vs) (hz2:vs.length<=2000) (hX64: ∀(i:Nat) (v:VV),vs[i]? =some v->v.x<2^64) (hl:h.l.length<=65535) (hroom:orE [Di h.l.length Dg,Gv Dg,Kd h]=0) (hc:knE h.l.length vs=0):Calls prog 8 #[.pointer (some ⟨h.b,0,none⟩),Dg.agg, .slice B vs.length c] w fun e w'=> ∃(gv:Value) (q:OB),e= .returned (.tuple #[.int .i64 ((h.l.length:Int)+1), .nilIface])/\q.c=3/\q.x=true/\pr q.T=Qv vs.length vs/\q.T.last<=1+vs.length/\h.To (h.more gv q) w w':=by
 have hz:vs.length<=1000000:=by omega
 have SS:=Ab H.start
 have hR:=HRV (Fr.refl w h.blocks)
 rw[show Dg.agg= .agg Dg.cs.toArray from rfl]
 go_enter func8,ntmps8
 go_wp2_with (first|go_skip|((with_reducible show wpList ..);first|(refine zB 35 (Dg.cs) (by rfl) rfl rfl rfl SS ?_;clear SS;intro Xa Ba SS;simp only[nn])))
 have hS1:Sy w _ h.blocks [hpO h,Am Ba Dg.cs]:=(Aa SS).drew
 clear SS
 refine wp_region_held_drew (P:=prog) (S:=fun X=>Sy w X h.blocks _) (by kernel_rfl) (hS1) (fun hS0=> ?_)
 refine gp 0 (some 13) (.pointer (some ⟨h.b,0,none⟩)) rfl rfl (hS1) ?_
 refine gq 1 (some 14) (.agg (Dg.cs).toArray) rfl rfl (fun X hX=>Aj (vs:=Dg.cs) 35 5 rwV szV rfl rfl (hX.hold 1 rfl) rfl rfl) (hS1) ?_
 refine gq 3 (some 16) (.agg (Dg.cs).toArray) rfl rfl (fun X hX=>Aj (vs:=Dg.cs) 35 5 rwV szV rfl rfl (hX.hold 1 rfl) rfl rfl) (hS1) ?_
 refine gp 5 (some 18) (.pointer (some ⟨h.b,0,none⟩)) rfl rfl (hS1) ?_
 refine gp 6 (some 19) (.slice B vs.length c) rfl rfl (hS1) ?_
 refine gr (rs:= [2]) (gcB 2 (some 15) rfl rfl hS1 (Mp h Dg _ (hS1.hp 0 rfl) (hT.fr hS1.fr H.low).1) id ?_ gn)
 intro Yt1 hqt1
 simp only[nn]
 refine gr (rs:= [4]) (gcB 4 (some 17) rfl rfl hqt1 (Rd _) id ?_ gn)
 intro Yt2 hqt2
 simp only[nn]
 refine gr (rs:= [7]) (gcB 7 (some 20) rfl rfl hqt2 (aknown_h h B c vs _ (hqt2.hp 0 rfl) (hT.fr hqt2.fr H.low).1 (HRV hqt2.fr) hz) id ?_ gn)
 intro Yt3 hqt3
 simp only[nn]
 refine gr (rs:= [8]) (Bl 8 (some 21) rfl rfl (by kernel_rfl) (Uc rfl rfl rfl rfl) (Nat.succ_pos _) hqt3 (fun _ hZ=>Sy.left (L:= [_,_]) (M:= [_]) hZ) ?_ gn)
 intro Yt4 Bt4 hEt4 hqt4
 clear hEt4
 simp only[nn]
 refine gr (rs:= [9]) (gcW 9 (some 22) rfl rfl (Sy.left (L:= [_,_]) (M:= [_]) hqt4) (Om Bt4 3 [Di h.l.length Dg,0,knE h.l.length vs] _ (hqt4.hold 2 rfl) (by simp)) ?_ gn)
 refine gp 10 (some 8) (.int .i64 (orE [Di h.l.length Dg,0,knE h.l.length vs])) rfl rfl (Sy.left (L:= [_,_]) (M:= [_]) hqt4) ?_
 refine wpAnyH_done (by kernel_rfl) ?_ _
 try simp only[nn]
 have SS:=Ab (Sy.left (L:= [hpO h,Am Ba Dg.cs]) (M:= [Am Bt4 (Ov [Di h.l.length Dg,0,knE h.l.length vs])]) hqt4)
 rw[or_kn]
 have hN:vs.length<=4294967295:=by omega
 go_wp2_with (first|go_skip|((with_reducible show wpList ..);first|(refine rd rfl (Mm rfl rfl rfl hc) ?_)|(refine zL (Dg.cs) 35 5 1 rwV szV (by rfl) rfl rfl SS rfl rfl rfl ?_;simp only[nn])|(refine rd rfl (Bp 22 35 underlying22 rfl rfl) ?_)|(refine rd rfl (ex_c32 rfl rfl hN) ?_)))
 have HC:=aadd_h h Dg vs.length _ ((Aa SS).hp 0 rfl) (hT.fr (Aa SS).fr H.low) hl hroom (.inl hz2)
 rw[show Dg.agg= .agg Dg.cs.toArray from rfl] at HC
 refine HC.mono ?_
 clear HC
 rintro _ Y ⟨gv,q,rfl,a1,a2,a3,a4,a5,T1⟩
 have HI0:Hid (LayI h vs w Ba 0 Y):=Ab ⟨gv,q,a1,a3,a4,a5,(Aa SS).heap 0 rfl T1⟩
 clear SS a1 a2 a3 a4 a5 T1
 go_wp2_with (first|go_skip|((with_reducible show wpList ..);first|(refine rd rfl (Bp 22 35 underlying22 rfl rfl) ?_)))
 go_loopg [41] vs.length (fun gm s41 wr=> ∃i:Nat,s41= .int .i64 (i:Nat)/\i<=vs.length/\vs.length - i<=gm/\Hid (LayI h vs w Ba i wr))
 case atStart=>exact⟨0,rfl,by omega,by omega,HI0⟩
 case round=>
  clear HI0
  obtain⟨i,rfl,hil,hgm,HI⟩:=hrel
  by_cases hlt:i<vs.length
  ·have dlt:decide ((i:Int)<(vs.length:Int))=true:=decide_eq_true (by omega)
   have hw1:IntKind.i64.wrap ((i:Int)+1)=(i:Int)+1:=by rw[IntKind.wrap_i64];omega
   have hi32:i<=4294967295:=by omega
   obtain⟨v,hv⟩: ∃v,vs[i]? =some v:=⟨_,List.getElem?_eq_getElem hlt⟩
   have HG:=Ab (kn_zero hc hv)
   obtain⟨b,off,hA,hb,hrg⟩:=hR i v hv
   have HA2:Hid (∀X:World,Fr w X h.blocks->X.rangeAt b (off+i * 5) v.cs):=Ab (fun X k=>by
    obtain⟨b2,off2,hA2,_,hr2⟩:=(HRV k) i v hv
    rw[hA] at hA2
    obtain⟨rfl,rfl⟩:b=b2/\off=off2:=by simpa using hA2
    exact hr2)
   subst hA
   obtain⟨gv,q,hq3,hqx,hqp0,hqla,hS⟩:=Aa HI
   have SS:=Ab hS
   clear hS HI
   have HLA:=Ab hqla
   have hla0:q.T.last<4000000:=by omega
   have HLT:=Ab hlt
   clear hb hrg hlt hil
   go_wp2_with (first|go_skip|((with_reducible show wpList ..);first|(refine rd rfl (Ed 22 5 i Zat Za2 rfl rfl rfl (Aa HLT)) ?_)|(refine rd rfl (Gx (vs:=v.cs) 35 5 rwV szV rfl rfl (Aa HA2 _ (Aa SS).fr) rfl) ?_)|(refine zA 35 (Be.cs) (by rfl) rfl SS ?_;clear SS;intro Xv Bv SS;simp only[nn])|(refine zS (v.cs) 2 35 (by rfl) rfl rfl rfl rfl (Na v) szV SS rfl ?_;clear SS;intro X4 SS;simp only[nn])))
   have hS9:Sy w _ h.blocks [hpO (h.more gv q),Am Ba Dg.cs,Am Bv v.cs]:=(Aa SS).drew
   clear SS
   have hl2:(h.more gv q).l.length<=65536:=by show (h.l++ [q]).length<=65536;simp;omega
   have hok:=ZbO (u:=i) (by have:=Aa HLT;omega)
   have hgd:=Mf (u:=i) (by have:=Aa HLT;omega)
   have hFn:FD (getD q.T (De i)):=by rw[Qd hqp0 (by rw[List.length_take];omega)];exact Ys
   have hFd:FD (Kn v):=⟨hX64 i v hv,show 0<2^64 by decide,show 0<2^64 by decide⟩
   refine wp_region_held_drew (P:=prog) (S:=fun X=>Holds X Bv v.cs) (by kernel_rfl) (hS9.hold 2 rfl) (fun hS0=> ?_)
   refine gq 0 (some 46) (.agg #[]) rfl rfl (fun X hX=>Zcu rfl) (hS9.hold 2 rfl) ?_
   refine gp 1 (some 47) (.pointer (some ⟨h.b,0,none⟩)) rfl rfl (hS9.hold 2 rfl) ?_
   refine gp 2 (some 48) (.int .i64 ((h.l.length:Int)+1)) rfl rfl (hS9.hold 2 rfl) ?_
   refine gp 3 (some 49) (.int .i64 (i:Nat)) rfl rfl (hS9.hold 2 rfl) ?_
   refine gq 4 (some 50) (.int .u32 (i:Nat)) rfl rfl (fun X hX=>ex_c32 rfl rfl hi32) (hS9.hold 2 rfl) ?_
   refine gq 6 (some 52) (.agg v.cs.toArray) rfl rfl (fun X hX=>Aj (vs:=v.cs) 35 5 rwV szV rfl rfl hX rfl rfl) (hS9.hold 2 rfl) ?_
   refine gq 7 (some 53) (.agg (Kn v).cs.toArray) rfl rfl (fun X hX=>ex_opn v rfl rfl rfl rfl rfl) (hS9.hold 2 rfl) ?_
   refine gr (rs:= [5]) (gc 5 (some 51) rfl rfl (Lp i hi32 _ (hT.fr hS9.fr H.low).2) ?_ gn)
   rintro e Yt1 ⟨rfl,hYt1⟩
   have hqt1:=Sy.on hS9 hYt1
   refine⟨_,rfl,hqt1.hold 2 rfl, ?_⟩
   simp only[nn]
   refine gr (rs:= [8]) (gc 8 (some 54) rfl rfl (Zcl (h.more gv q) h.l.length q (De i) (Kn v) _ (hqt1.hp 0 rfl) hl2 (Yh h gv q) (hT.fr hqt1.fr H.low) hok hgd hFn hFd hla0) ?_ gn)
   rintro e Yt2 ⟨h1,y,rfl,hP,T3⟩
   have hqp:=Sy.heap hqt1 0 rfl T3
   refine⟨_,rfl,hqp.hold 2 rfl, ?_⟩
   refine wpAnyH_done (by kernel_rfl) ?_ _
   try simp only[nn]
   obtain⟨T',rfl,hpr,hla⟩:=lay_step hv (Aa HG) hqx hqp0 hP
   have HI2:Hid (LayI h vs w Ba (i+1) _):=Ab ⟨gv,{q with T:=T'},hq3,hqx,hpr,(by have:=hla;have:=Aa HLA;show T'.last<=_;omega),Sy.left (L:= [_,_]) (M:= [_]) hqp⟩
   clear hqp hP T3 hpr hla
   go_wp2
   go_roundg (vs.length - (i+1))
   case measure=>have:=Aa HLT;omega
   case rel=>exact⟨i+1,by go_num,by have:=Aa HLT;omega,by omega,HI2⟩
  ·obtain rfl:i=vs.length:=by omega
   clear hlt hil
   go_wp2
   go_ret2
   obtain⟨gv,q,hq3,hqx,hqp0,hqla,hS⟩:=Aa HI
   exact⟨gv,q,rfl,hq3,hqx,(by rw[hqp0,List.take_length]),hqla,HP.To.end H hS rfl⟩
end
section
open Go Go.Proofs Go.Maps Go.RowKit FM Tryz
attribute [local go_sem] Ad Ag Ak Df Bi Ae Bg
attribute [local go_sem] Eg Ea
theorem ZaQ:nf 4294967295=4751297606873776128:=by kernel_rfl
def Gc (x:Nat):List Value:= [.int .i64 4, .bool false, .float .f64 x, .string ByteArray.empty, .int .i64 0]
theorem Dd (x:Nat):(Ee x).agg= .agg (Gc x).toArray:=rfl
theorem oneN (x:Nat): ∀u∈Gc x,u.oneCell'=true:=by simp[Gc,Value.oneCell']
theorem ZcZ (n x:Nat):Di n (Ee x)=0:=by
 unfold Di
 rw[La]
 simp[Az,Jc,Ee]
theorem prim_num (b x:Nat) (hint:Int) (w:World):Calls prog 195 #[.pointer (some ⟨b,0,none⟩),(Ee x).agg, .int .i64 hint] w fun e w'=>e= .returned (.tuple #[(Ee x).agg, .nilIface])/\Below w.heap.size w w':=by
 have SS:=Ab (Sy.nil w [])
 rw[Dd]
 go_enter func195,ntmps195
 go_wp2_with (first|go_skip|((with_reducible show wpList ..);first|(refine zB 35 (Gc x) (by rfl) rfl rfl rfl SS ?_;clear SS;intro Xa Ba SS;simp only[nn])|(refine zA 35 (Be.cs) (by rfl) rfl SS ?_;clear SS;intro Xb Bb SS;simp only[nn])|(refine z1 3 isAgg3 0 (by rfl) rfl rfl SS rfl rfl ?_;simp only[nn])|(refine zL (Gc x) 35 5 0 rwV szV (by rfl) rfl rfl SS rfl rfl rfl ?_;simp only[nn])|(refine zS ((Ee x).cs) 1 35 (by rfl) rfl rfl rfl rfl (Na _) szV SS rfl ?_;clear SS;intro Xc SS;simp only[nn])))
 refine bodyPost_ret (res_ct rwV szV rfl rfl rfl ((Aa SS).hold 1 rfl) rfl) rfl ?_
 exact⟨rfl,(Aa SS).fr.below⟩
theorem ZaM (x:Nat) (w:World):Calls prog 196 #[(Ee x).agg] w fun e w'=>e= .returned (.tuple #[.float .f64 x, .nilIface])/\Below w.heap.size w w':=by
 have SS:=Ab (Sy.nil w [])
 rw[Dd]
 go_enter func196,ntmps196
 go_wp2_with (first|go_skip|((with_reducible show wpList ..);first|(refine zB 35 (Gc x) (by rfl) rfl rfl rfl SS ?_;clear SS;intro Xa Ba SS;simp only[nn])|(refine z1 3 isAgg3 0 (by rfl) rfl rfl SS rfl rfl ?_;simp only[nn])|(refine z1 33 isAgg33 0 (by rfl) rfl rfl SS rfl rfl ?_;simp only[nn])))
 go_ret2
 exact⟨rfl,(Aa SS).fr.below⟩
theorem Jh (h:HP) (x:Nat) (w:World) (H:h.Is w) (hT:Tabs w):Calls prog 190 #[.pointer (some ⟨h.b,0,none⟩),(Ee x).agg] w fun e w'=>e= .returned (.tuple #[.float .f64 x, .nilIface])/\Below w.heap.size w w':=by
 have SS:=Ab (Sy.nil w [])
 have HH:=Ab H
 clear H
 have HT:=Ab hT
 clear hT
 rw[Dd]
 go_enter func190,ntmps190
 go_wp2_with (first|go_skip|((with_reducible show wpList ..);first|(refine zB 35 (Gc x) (by rfl) rfl rfl rfl SS ?_;clear SS;intro Xa Ba SS;simp only[nn])|(refine zL (Gc x) 35 5 0 rwV szV (by rfl) rfl rfl SS rfl rfl rfl ?_;simp only[nn])))
 have HO:=Mp h (Ee x) _ ((Aa HH).on (Aa SS).fr.below) ((Aa HT).on (Aa SS).fr.below).1
 rw[ZcZ,Dd] at HO
 refine HO.mono ?_
 clear HO
 rintro _ Y1 ⟨rfl,hb⟩
 replace SS:=Ab ((Aa SS).on hb)
 clear hb
 go_wp2_with (first|go_skip|((with_reducible show wpList ..);first|(refine zL (Gc x) 35 5 0 rwV szV (by rfl) rfl rfl SS rfl rfl rfl ?_;simp only[nn])))
 have HO:=fun X=>prim_num h.b x 2 X
 simp only[Dd] at HO
 refine(HO _).mono ?_
 clear HO
 rintro _ Y2 ⟨rfl,hb⟩
 replace SS:=Ab ((Aa SS).on hb)
 clear hb
 go_wp2_with (first|go_skip|((with_reducible show wpList ..);first|(refine zA 35 (Be.cs) (by rfl) rfl SS ?_;clear SS;intro Xb Bb SS;simp only[nn])|(refine zS ((Ee x).cs) 1 35 (by rfl) rfl rfl rfl rfl (Na _) szV SS rfl ?_;clear SS;intro Xc SS;simp only[nn])|(refine zL (Gc x) 35 5 1 rwV szV (by rfl) rfl rfl SS rfl rfl rfl ?_;simp only[nn])))
 have HO:=fun X=>ZaM x X
 simp only[Dd] at HO
 refine(HO _).mono ?_
 clear HO
 rintro _ Y3 ⟨rfl,hb⟩
 replace SS:=Ab ((Aa SS).on hb)
 clear hb
 go_wp2
 go_ret2
 exact⟨rfl,(Aa SS).fr.below⟩
theorem Gi (n:Int) (w:World):(callFunc 223 #[.int .u64 n]).run prog w= .ok (.value (.float .f64 n.toNat)) w:=by
 rw[run_callFunc_extern func223 (by kernel_rfl) (by kernel_rfl) (by kernel_rfl) (e:=Extern.MathFloatBits.float64frombits) (by kernel_rfl)];rfl
attribute [local go_sem] Gi
theorem ex_neF {o:Oper} {a:Act} {w:World} {x y:Operand} (ho:o.op= .binOp .neq 33 x y 33) (hx:a.eval x= .float .f64 4751297606873776128) (hy:a.eval y= .float .f64 4751297606873776128):(execOp a.eval o).run prog w= .ok (.value (.bool false)) w:=by
 unfold execOp
 simp only[ho,hx,hy]
 kernel_rfl
theorem ex_gtF {o:Oper} {a:Act} {w:World} {x:Operand} (ho:o.op= .binOp .gtr 33 x (.const (.float .f64 9218868437227405311)) 33) (hx:a.eval x= .float .f64 4751297606873776128):(execOp a.eval o).run prog w= .ok (.value (.bool false)) w:=by
 unfold execOp
 simp only[ho,hx]
 kernel_rfl
theorem ex_ltF {o:Oper} {a:Act} {w:World} {x:Operand} (ho:o.op= .binOp .lss 33 x (.const (.float .f64 0)) 33) (hx:a.eval x= .float .f64 4751297606873776128):(execOp a.eval o).run prog w= .ok (.value (.bool false)) w:=by
 unfold execOp
 simp only[ho,hx]
 kernel_rfl
theorem split_mx (w:World):Calls prog 201 #[.float .f64 4751297606873776128] w fun e w'=>e= .returned (.tuple #[.int .u64 9007199252643840, .int .i64 (-21)])/\w'=w:=by
 have a1:bits BinOp.and IntKind.u64 4751297606873776128 4503599627370495=4503599625273344:=by kernel_rfl
 have a2:bits BinOp.and IntKind.u64 1054 2047=1054:=by kernel_rfl
 have a3:bits BinOp.or IntKind.u64 4503599625273344 4503599627370496=9007199252643840:=by kernel_rfl
 go_enter func201,ntmps201
 go_wp2
 go_ret2
 exact⟨rfl,rfl⟩
theorem low_mx (w:World):Calls prog 200 #[.int .u64 9007199252643840, .int .i64 (-21)] w fun e w'=>e= .returned (.int .u32 4294967295)/\w'=w:=by
 go_enter func200,ntmps200
 go_wp2
 go_ret
 exact⟨rfl,rfl⟩
theorem abs_mx (w:World):Calls prog 225 #[.float .f64 4751297606873776128] w fun e w'=>e= .returned (.float .f64 4751297606873776128)/\w'=w:=by
 have a1:bits BinOp.andNot IntKind.u64 4751297606873776128 9223372036854775808=4751297606873776128:=by kernel_rfl
 go_enter func225,ntmps225
 go_wp2
 go_ret
 exact⟨rfl,rfl⟩
theorem isinf_mx (w:World):Calls prog 214 #[.float .f64 4751297606873776128, .int .i64 0] w fun e w'=>e= .returned (.bool false)/\w'=w:=by
 go_enter func214,ntmps214
 go_wp2_with fail
 refine(abs_mx _).mono ?_
 rintro _ _ ⟨rfl,rfl⟩
 go_wp2_with (first|go_skip|((with_reducible show wpList ..);first|(refine rd rfl (ex_gtF rfl rfl) ?_)))
 go_ret
 exact⟨rfl,rfl⟩
theorem fin_mx (w:World):Calls prog 199 #[.float .f64 4751297606873776128] w fun e w'=>e= .returned (.bool true)/\w'=w:=by
 have hn:isN 4751297606873776128=false:=by kernel_rfl
 go_enter func199,ntmps199
 go_wp2_with fail
 have HI:=Ec 4751297606873776128 w
 rw[hn] at HI
 refine HI.mono ?_
 rintro _ _ ⟨rfl,rfl⟩
 go_wp2_with fail
 refine(isinf_mx _).mono ?_
 rintro _ _ ⟨rfl,rfl⟩
 go_wp2
 go_ret
 exact⟨rfl,rfl⟩
theorem u32_mx (w:World):Calls prog 194 #[.float .f64 4751297606873776128] w fun e w'=>e= .returned (.int .u32 4294967295)/\w'=w:=by
 go_enter func194,ntmps194
 go_wp2_with fail
 refine(fin_mx _).mono ?_
 rintro _ _ ⟨rfl,rfl⟩
 go_wp2_with fail
 refine(split_mx _).mono ?_
 rintro _ _ ⟨rfl,rfl⟩
 go_wp2_with fail
 refine(low_mx _).mono ?_
 rintro _ _ ⟨rfl,rfl⟩
 go_wp2_with (first|go_skip|((with_reducible show wpList ..);first|(refine rd rfl (ex_ltF rfl rfl) ?_)))
 go_ret
 exact⟨rfl,rfl⟩
end
section
open Go Go.Proofs Go.Maps Go.RowKit FM Tryz
attribute [local go_sem] Ad Ag Ak Df Bi Ae Bg
theorem ex_nfM {o:Oper} {a:Act} {w:World} {x:Operand} (ho:o.op= .convert 44 33 x) (hx:a.eval x= .int .u32 4294967295):(execOp a.eval o).run prog w= .ok (.value (.float .f64 4751297606873776128)) w:=by
 rw[←ZaQ]
 exact Ev ho hx
theorem Zad {o:Oper} {a:Act} {w:World} {x y:Operand} (ho:o.op= .binOp .eql 42 x y 42) (hx:a.eval x= .agg Bm.cs.toArray) (hy:a.eval y=Bm.agg):(execOp a.eval o).run prog w= .ok (.value (.bool true)) w:=by
 unfold execOp
 simp only[ho,hx,hy]
 kernel_rfl
theorem Md (n:Nat):Bu (Jb n)=2:=by simp[Bu,Jb,Jq,Gd]
theorem Zo (n:Nat):noV (Jb n)=false:=by unfold noV;rw[Md];rfl
theorem len_st (n:Nat):stV (Jb n)=true:=by
 have hs:Ge (Jb n)=true:=by simp[Ge,Jb,Jq,La,Mu,Gd,Pd,Be];simp[thV]
 have hk:Gb (Jb n)=2:=by
  unfold Gb
  rw[hs,Md]
  rfl
 have h1:thV (Jb n).v=true:=Jq _
 have h2:thV (Jb n).g=false:=Gd
 have h3:thV (Jb n).s=false:=Gd
 unfold stV Oj
 rw[Zo]
 simp only[hk,Md,h1,h2,h3]
 rfl
theorem whole_mx (h:HP) (w:World) (H:h.Is w) (hT:Tabs w):Calls prog 193 #[.pointer (some ⟨h.b,0,none⟩),(Ee 4751297606873776128).agg, .func (.func 194) #[] #[]] w fun e w'=>e= .returned (.tuple #[.int .u32 4294967295, .nilIface])/\Below w.heap.size w w':=by
 have SS:=Ab (Sy.nil w [])
 have HH:=Ab H
 clear H
 have HT:=Ab hT
 clear hT
 rw[Dd]
 go_enter func193,ntmps193
 go_wp2_with (first|go_skip|((with_reducible show wpList ..);first|(refine zB 35 (Gc 4751297606873776128) (by rfl) rfl rfl rfl SS ?_;clear SS;intro Xa Ba SS;simp only[nn])|(refine zL (Gc 4751297606873776128) 35 5 0 rwV szV (by rfl) rfl rfl SS rfl rfl rfl ?_;simp only[nn])))
 have HO:=Jh h 4751297606873776128 _ ((Aa HH).on (Aa SS).fr.below) ((Aa HT).on (Aa SS).fr.below)
 rw[Dd] at HO
 refine HO.mono ?_
 clear HO
 rintro _ Y ⟨rfl,hb⟩
 replace SS:=Ab ((Aa SS).on hb)
 clear hb
 go_wp2_with fail
 refine(u32_mx _).mono ?_
 rintro _ _ ⟨rfl,rfl⟩
 go_wp2
 go_ret2
 exact⟨rfl,(Aa SS).fr.below⟩
theorem cu32_mx (h:HP) (w:World) (H:h.Is w) (hT:Tabs w):Calls prog 189 #[.pointer (some ⟨h.b,0,none⟩),(Ee 4751297606873776128).agg] w fun e w'=>e= .returned (.tuple #[.int .u32 4294967295, .nilIface])/\Below w.heap.size w w':=by
 have SS:=Ab (Sy.nil w [])
 have HH:=Ab H
 clear H
 have HT:=Ab hT
 clear hT
 rw[Dd]
 go_enter func189,ntmps189
 go_wp2_with (first|go_skip|((with_reducible show wpList ..);first|(refine zB 35 (Gc 4751297606873776128) (by rfl) rfl rfl rfl SS ?_;clear SS;intro Xa Ba SS;simp only[nn])|(refine zL (Gc 4751297606873776128) 35 5 0 rwV szV (by rfl) rfl rfl SS rfl rfl rfl ?_;simp only[nn])))
 have HO:=whole_mx h _ ((Aa HH).on (Aa SS).fr.below) ((Aa HT).on (Aa SS).fr.below)
 rw[Dd] at HO
 refine HO.mono ?_
 clear HO
 rintro _ Y ⟨rfl,hb⟩
 replace SS:=Ab ((Aa SS).on hb)
 clear hb
 go_wp2
 go_ret2
 exact⟨rfl,(Aa SS).fr.below⟩
theorem aslen_mx (h:HP) (w:World) (H:h.Is w) (hT:Tabs w):Calls prog 187 #[.pointer (some ⟨h.b,0,none⟩),(Ee 4751297606873776128).agg] w fun e w'=>e= .returned (.tuple #[.int .u32 4294967295, .nilIface])/\Below w.heap.size w w':=by
 have SS:=Ab (Sy.nil w [])
 have HH:=Ab H
 clear H
 have HT:=Ab hT
 clear hT
 rw[Dd]
 go_enter func187,ntmps187
 go_wp2_with (first|go_skip|((with_reducible show wpList ..);first|(refine zB 35 (Gc 4751297606873776128) (by rfl) rfl rfl rfl SS ?_;clear SS;intro Xa Ba SS;simp only[nn])|(refine zL (Gc 4751297606873776128) 35 5 0 rwV szV (by rfl) rfl rfl SS rfl rfl rfl ?_;simp only[nn])))
 have HO:=cu32_mx h _ ((Aa HH).on (Aa SS).fr.below) ((Aa HT).on (Aa SS).fr.below)
 rw[Dd] at HO
 refine HO.mono ?_
 clear HO
 rintro _ Y ⟨rfl,hb⟩
 replace SS:=Ab ((Aa SS).on hb)
 clear hb
 go_wp2_with (first|go_skip|((with_reducible show wpList ..);first|(refine zL (Gc 4751297606873776128) 35 5 0 rwV szV (by rfl) rfl rfl SS rfl rfl rfl ?_;simp only[nn])))
 have HO:=Jh h 4751297606873776128 _ ((Aa HH).on (Aa SS).fr.below) ((Aa HT).on (Aa SS).fr.below)
 rw[Dd] at HO
 refine HO.mono ?_
 clear HO
 rintro _ Y ⟨rfl,hb⟩
 replace SS:=Ab ((Aa SS).on hb)
 clear hb
 go_wp2_with (first|go_skip|((with_reducible show wpList ..);first|(refine rd rfl (ex_nfM rfl rfl) ?_)|(refine rd rfl (ex_neF rfl rfl rfl) ?_)))
 go_ret2
 exact⟨rfl,(Aa SS).fr.below⟩
