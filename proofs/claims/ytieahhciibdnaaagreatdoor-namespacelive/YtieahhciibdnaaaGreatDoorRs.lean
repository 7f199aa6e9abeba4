import Derived.Test.YtieahhciibdnaaaGreatDoorRr
set_option linter.all false
namespace Go.Proofs.YtieahhciibdnaaaGreatDoor
set_option maxRecDepth 100000
set_option maxHeartbeats 0
section
open Go Go.Proofs Go.Maps Go.RowKit FM Tryz
attribute [local go_sem] Ak Ae Aq Dl Dk Bl Af Aj Ad Bj Et Es
theorem ta_no (v:Value) (w:World):(Instr.typeAssert (.iface 136 v) 36 29 true).run prog w= .ok (.tuple #[.int .i64 0, .bool false]) w:=by
 simp[Instr.typeAssert,run_underlying underlying29,Tryz.zeroValue29]
theorem ta_yes (v:Value) (w:World):(Instr.typeAssert (.iface 136 v) 36 136 true).run prog w= .ok (.tuple #[v, .bool true]) w:=by
 simp[Instr.typeAssert,run_underlying underlying136]
theorem ta_ern (v:Value) (w:World):(Instr.typeAssert (.iface 29 v) 36 29 true).run prog w= .ok (.tuple #[v, .bool true]) w:=by
 simp[Instr.typeAssert,run_underlying underlying29]
attribute [local go_sem] ta_no ta_yes ta_ern
def Ly (n:Int):List Value:= .int .i64 0:: .int .i64 n::zeroV.cs
def ZaO (n:Int):List Value:= .int .i64 n:: .int .i64 0::zeroV.cs
theorem oneF (n:Int): ∀u∈Ly n,u.oneCell'=true:=by simp[Ly,zeroV,VV.cs,Value.oneCell']
theorem oneG (n:Int): ∀u∈ZaO n,u.oneCell'=true:=by simp[ZaO,zeroV,VV.cs,Value.oneCell']
theorem Sy.one {w:World} {B:Nat} {cs:List Value} (h:Holds w B cs) (hc:0<cs.length):Sy w w [B] [Ao B cs]:=⟨Fr.refl _ _,fun o ho=>by rw[List.mem_singleton.1 ho];exact Jo _ _,fun o ho=>by rw[List.mem_singleton.1 ho];exact⟨h,hc⟩,fun o ho b hb=>by rw[List.mem_singleton.1 ho] at hb;exact .inl hb,by simp⟩
theorem ex_ranF {o:Oper} {a:Act} {w:World} {x y:Operand} (ho:o.op= .build 41 #[(1,x),(2,y)]) (hx:a.eval x= .int .i64 5) (hy:a.eval y= .agg zeroV.cs.toArray):(execOp a.eval o).run prog w= .ok (.value (.agg (Ly 5).toArray)) w:=by
 have e:(Instr.build 41 #[(1, .int .i64 5),(2, .agg zeroV.cs.toArray)]).run prog w= .ok (.agg (Ly 5).toArray) w:=by kernel_rfl
 unfold execOp
 simp only[ho,List.map_toArray,List.map_cons,List.map_nil,hx,hy]
 simp[e]
theorem ex_codF {o:Oper} {a:Act} {w:World} {x:Operand} {c:Int} (ho:o.op= .build 41 #[(0,x)]) (hx:a.eval x= .int .i64 c):(execOp a.eval o).run prog w= .ok (.value (.agg (ZaO c).toArray)) w:=by
 have e:(Instr.build 41 #[(0, .int .i64 c)]).run prog w= .ok (.agg (ZaO c).toArray) w:=by kernel_rfl
 unfold execOp
 simp only[ho,List.map_toArray,List.map_cons,List.map_nil,hx]
 simp[e]
theorem Zbc:0<Gz.length:=by decide
def Mq (x:Nat):VV:=⟨4,false,x,ByteArray.empty,0⟩
theorem Ky (c:Int) (w:World):Calls prog 5 #[.int .i64 c] w fun e w'=>e= .returned (.int .i64 c)/\w'=w:=by
 go_enter func5,ntmps5
 go_wp2
 go_ret
 exact⟨rfl,rfl⟩
theorem Zc2 (x:Nat) (w:World):Calls prog 27 #[.float .f64 x] w fun e w'=>e= .returned ((Mq x).agg)/\Below w.heap.size w w':=by
 have SS:=Ab (Sy.nil w [])
 go_enter func27,ntmps27
 go_wp2_with (first|go_skip|((with_reducible show wpList ..);first|(refine zA 26 (zeroV.cs) (by rfl) rfl SS ?_;clear SS;intro Xa Ba SS;simp only[nn])))
 refine(Zbi x _).mono ?_
 rintro _ Y1 ⟨rfl,hb1⟩
 replace SS:=Ab ((Aa SS).on hb1)
 clear hb1
 rw[Db]
 go_wp2_with (first|go_skip|((with_reducible show wpList ..);first|(refine zS ((Mq x).cs) 0 26 (by rfl) rfl rfl rfl rfl (Ex _) szV SS rfl ?_;clear SS;intro Xz SS;simp only[nn])))
 refine Ol rwV szV rfl rfl rfl ((Aa SS).hold 0 rfl) rfl ?_
 exact⟨rfl,(Aa SS).fr.below⟩
theorem fault_r (B:Nat) (w:World) (H:Holds w B Gz):Calls prog 34 #[Uk B] w fun e w'=>e= .returned (.agg (Ly 5).toArray)/\Sy w w' [B] [Ao B Gz]:=by
 have SS:=Ab (Sy.one H Zbc)
 clear H
 unfold Uk
 go_enter func34,ntmps34
 go_wp2_with (first|go_skip|((with_reducible show wpList ..);first|(refine zA 41 (Ly 0) (by rfl) rfl SS ?_;clear SS;intro Xa Ba SS;simp only[nn])))
 have hS1:Sy w _ [B] [Ao B Gz,Ao Ba (Ly 0)]:=(Aa SS).drew
 clear SS
 have cu: ∀{X:World} {M:List Ob},Sy w X [B] ([Ao B Gz]++M)->Sy w X [B] [Ao B Gz]:=fun h=>Sy.left h
 refine wp_region_held_drew (P:=prog) (S:=fun X=>Sy w X [B] [Ao B Gz]) (by kernel_rfl) (cu hS1) (fun hS0=> ?_)
 refine gp 0 (some 19) (.pointer (some ⟨B,0,none⟩)) rfl rfl (cu hS1) ?_
 refine gp 1 (some 20) (.pointer (some ⟨B,0,none⟩)) rfl rfl (cu hS1) ?_
 refine gp 2 (some 21) (.pointer (some ⟨B,0,none⟩)) rfl rfl (cu hS1) ?_
 refine gq 3 (some 22) (.int .i64 5) rfl rfl (fun X hX=>Ag 3 isAgg3 rfl rfl (hX.hold 0 rfl) rfl) (cu hS1) ?_
 refine gp 4 (some 23) (.pointer (some ⟨B,0,none⟩)) rfl rfl (cu hS1) ?_
 refine gp 5 (some 24) (.pointer (some ⟨B,0,none⟩)) rfl rfl (cu hS1) ?_
 refine gp 6 (some 25) (.pointer (some ⟨B,1,none⟩)) rfl rfl (cu hS1) ?_
 refine gq 7 (some 26) (.agg zeroV.cs.toArray) rfl rfl (fun X hX=>Am (vs:=zeroV.cs) 26 5 rwV szV rfl rfl (hX.hold 0 rfl) rfl rfl) (cu hS1) ?_
 refine gq 8 (some 27) (.agg (Ly 5).toArray) rfl rfl (fun X hX=>ex_ranF rfl rfl rfl) (cu hS1) ?_
 refine gr (rs:= [9]) (Jd (vs:=Ly 5) (new:=Ly 5) 9 1 41 rfl rfl (by kernel_rfl) rfl rfl rfl rfl (oneF _) szF hS1 rfl (by simp[Bz,VV.cs,KK.cs,DD.cs,OB.cs,hcs,Ar,zeroV,Ly]) (by simp[Bz,VV.cs,KK.cs,DD.cs,OB.cs,hcs,Ar,zeroV,Ly]) (fun _ hZ=>cu hZ) ?_ gn)
 intro Yt1 hqt1
 refine dn ?_
 try simp only[nn]
 have SS:=Ab hqt1
 go_wp2
 refine Ol rwF szF rfl rfl rfl ((Aa SS).hold 1 rfl) rfl ?_
 exact⟨rfl,Sy.left (L:= [Ao B Gz]) (M:= [_]) (Aa SS)⟩
theorem ZbN (B:Nat) (w:World) (H:Holds w B Gz):Calls prog 11 #[Uk B] w fun e w'=>e= .returned (.agg (Ly 5).toArray)/\Sy w w' [B] [Ao B Gz]:=by
 have SS:=Ab (Sy.one H Zbc)
 clear H
 go_enter func11,ntmps11
 go_wp2_with (first|go_skip|((with_reducible show wpList ..);first|(refine zA 41 (Ly 0) (by rfl) rfl SS ?_;clear SS;intro Xa Ba SS;simp only[nn])))
 refine(fault_r B _ ((Aa SS).hold 0 rfl)).mono ?_
 rintro _ Y1 ⟨rfl,S1⟩
 replace SS:=Ab ((Aa SS).set 0 rfl (Jo B Gz) (S1.get 0 rfl) S1.fr (fun b hb=> .inl hb))
 clear S1
 go_wp2_with (first|go_skip|((with_reducible show wpList ..);first|(refine zS (hp:=(show 0+7<=7 by decide)) (Ly 5) 1 41 (by rfl) rfl rfl rfl rfl (oneF _) szF SS rfl ?_;clear SS;intro Xz SS;simp only[nn])))
 refine Ol rwF szF rfl rfl rfl ((Aa SS).hold 1 rfl) rfl ?_
 exact⟨rfl,Sy.left (L:= [Ao B Gz]) (M:= [_]) (Aa SS)⟩
theorem fault_c (c:Int) (w:World):Calls prog 34 #[.iface 29 (.int .i64 c)] w fun e w'=>e= .returned (.agg (ZaO c).toArray)/\Below w.heap.size w w':=by
 have SS:=Ab (Sy.nil w [])
 go_enter func34,ntmps34
 go_wp2_with (first|go_skip|((with_reducible show wpList ..);first|(refine zA 41 (Ly 0) (by rfl) rfl SS ?_;clear SS;intro Xa Ba SS;simp only[nn])|(refine rd rfl (ex_codF rfl rfl) ?_)|(refine zS (hp:=(show 0+7<=7 by decide)) (ZaO c) 0 41 (by rfl) rfl rfl rfl rfl (oneG _) szF SS rfl ?_;clear SS;intro Xz SS;simp only[nn])))
 refine Ol rwF szF rfl rfl rfl ((Aa SS).hold 0 rfl) rfl ?_
 exact⟨rfl,(Aa SS).fr.below⟩
theorem Yf (c:Int) (w:World):Calls prog 11 #[.iface 29 (.int .i64 c)] w fun e w'=>e= .returned (.agg (ZaO c).toArray)/\Below w.heap.size w w':=by
 have SS:=Ab (Sy.nil w [])
 go_enter func11,ntmps11
 go_wp2_with (first|go_skip|((with_reducible show wpList ..);first|(refine zA 41 (Ly 0) (by rfl) rfl SS ?_;clear SS;intro Xa Ba SS;simp only[nn])))
 refine(fault_c c _).mono ?_
 rintro _ Y1 ⟨rfl,hb1⟩
 replace SS:=Ab ((Aa SS).on hb1)
 clear hb1
 go_wp2_with (first|go_skip|((with_reducible show wpList ..);first|(refine zS (hp:=(show 0+7<=7 by decide)) (ZaO c) 0 41 (by rfl) rfl rfl rfl rfl (oneG _) szF SS rfl ?_;clear SS;intro Xz SS;simp only[nn])))
 refine Ol rwF szF rfl rfl rfl ((Aa SS).hold 0 rfl) rfl ?_
 exact⟨rfl,(Aa SS).fr.below⟩
theorem Zcx {o:Oper} {a:Act} {w:World} {x y:Operand} {s t:ByteArray} {r:Bool} (ho:o.op= .binOp .eql 9 x y 9) (hx:a.eval x= .string s) (hy:a.eval y= .string t) (h:decide (s=t)=r):(execOp a.eval o).run prog w= .ok (.value (.bool r)) w:=by
 subst h
 unfold execOp
 simp only[ho,hx,hy]
 simp[go_sem,eqGuard]
 by_cases h:s=t
 ·subst h
  simp
 ·rw[decide_eq_false h,beq_eq_false_iff_ne]
  exact fun h2=>h (toList_inj h2)
def HasP (ns:List ByteArray) (t:ByteArray) (e:Ending):Prop:=(t∈ns/\ ∃i:Nat,e= .returned (.tuple #[.int .i64 (i:Nat), .bool true]))∨(t ∉ ns/\e= .returned (.tuple #[.int .i64 0, .bool false]))
theorem Zda (B:Option Addr) (c:Nat) (ns:List ByteArray) (t:ByteArray) (w:World) (hR:ReadsN w B ns) (hz:ns.length<=1000):Calls prog 15 #[.slice B ns.length c, .string t] w fun e w'=>HasP ns t e/\Below w.heap.size w w':=by
 have SS:=Ab (Sy.nil w [])
 have HR:=Ab hR
 have HZ:=Ab hz
 clear hR hz
 go_enter func15,ntmps15
 go_wp2_with fail
 go_loopg [6] ns.length (fun gm s6 wr=> ∃i:Nat,s6= .int .i64 (i:Nat)/\i<=ns.length/\ns.length - i<=gm/\Hid (∀j v,j<i->ns[j]? =some v->v≠t)/\Hid (Sy w wr [] []))
 case atStart=>exact⟨0,rfl,by omega,by omega,Ab (fun j v hj=>by omega),SS⟩
 case round=>
  clear SS
  obtain⟨i,rfl,hil,hgm,HD,SS⟩:=hrel
  by_cases hlt:i<ns.length
  ·have dlt:decide ((i:Int)<(ns.length:Int))=true:=decide_eq_true (by omega)
   have hw1:IntKind.i64.wrap ((i:Int)+1)=(i:Int)+1:=by have:=Aa HZ;rw[IntKind.wrap_i64];omega
   obtain⟨s,hs⟩: ∃s,ns[i]? =some s:=⟨_,List.getElem?_eq_getElem hlt⟩
   obtain⟨b,off,hA,hb,hcell⟩:=(Aa HR) i s hs
   have HC:Hid (∀X:World,Fr w X []->X.cell? ⟨b,off+i * 1,none⟩=some (.string s)):=Ab (fun X k=>by rw[World.cell?_of_block (k.block b hb (by simp))];exact hcell)
   subst hA
   have HLT:=Ab hlt
   clear hb hcell hlt hil
   by_cases he:s=t
   ·have HM:Hid (t∈ns):=Ab (he▸List.mem_of_getElem? hs)
    have heq:decide (s=t)=true:=decide_eq_true he
    clear he hs
    go_wp2_with (first|go_skip|((with_reducible show wpList ..);first|(refine rd rfl (Bo 22 9 underlying22 rfl rfl) ?_)|(refine rd rfl (Bp 22 1 i Zdw ZdY rfl rfl rfl (Aa HLT)) ?_)|(refine rd rfl (Dc 9 isAgg9 rfl rfl (Aa HC _ (Aa SS).fr)) ?_)|(refine rd rfl (Zcx rfl rfl rfl heq) ?_)))
    go_ret2
    exact⟨.inl ⟨Aa HM,i,rfl⟩,(Aa SS).fr.below⟩
   ·have HD2:Hid (∀j u,j<i+1->ns[j]? =some u->u≠t):=Ab (fun j u hj hu=>by
     rcases Nat.lt_or_ge j i with h|h
     ·exact Aa HD j u h hu
     ·obtain rfl:j=i:=by omega
      obtain rfl:s=u:=Option.some.inj (hs.symm.trans hu)
      exact he)
    have heq:decide (s=t)=false:=decide_eq_false he
    clear HD he hs
    go_wp2_with (first|go_skip|((with_reducible show wpList ..);first|(refine rd rfl (Bo 22 9 underlying22 rfl rfl) ?_)|(refine rd rfl (Bp 22 1 i Zdw ZdY rfl rfl rfl (Aa HLT)) ?_)|(refine rd rfl (Dc 9 isAgg9 rfl rfl (Aa HC _ (Aa SS).fr)) ?_)|(refine rd rfl (Zcx rfl rfl rfl heq) ?_)))
    go_roundg (ns.length - (i+1))
    case measure=>have:=Aa HLT;omega
    case rel=>exact⟨i+1,by go_num,by have:=Aa HLT;omega,by omega,HD2,SS⟩
  ·obtain rfl:i=ns.length:=by omega
   have HM:Hid (t ∉ ns):=Ab (fun hm=>by
    obtain⟨j,hj⟩:=List.getElem?_of_mem hm
    exact Aa HD j t (List.getElem?_eq_some_iff.1 hj).1 hj rfl)
   clear hlt hil HD
   go_wp2_with (first|go_skip|((with_reducible show wpList ..);first|(refine rd rfl (Bo 22 9 underlying22 rfl rfl) ?_)))
   go_ret2
   exact⟨.inr ⟨Aa HM,rfl⟩,(Aa SS).fr.below⟩
end
section
open Go Go.Proofs Go.Maps Go.RowKit FM
attribute [local go_sem] Ak Ae Aq Dl Dk Bl Af Aj Ad Bj Et Es
def bB:ByteArray:={data:= #[98]}
def aB:ByteArray:={data:= #[97]}
def Ks:ByteArray:={data:= #[49,48]}
def Yx:ByteArray:={data:= #[50]}
def wN:List ByteArray:= [bB,aB,Ks,Yx]
theorem wN_ok:Ko wN=0:=by
 have h1:wN.all gkN=true:=by kernel_rfl
 have h2:wN.Nodup:=by
  unfold wN
  simp only[List.nodup_cons,List.mem_cons,List.not_mem_nil,not_or,not_false_iff,and_true,List.nodup_nil,or_false]
  refine⟨⟨?_, ?_, ?_⟩,⟨?_, ?_⟩, ?_⟩<;>(intro h;have h:=congrArg ByteArray.data h;exact absurd h (by decide))
 unfold Ko Zd9
 rw[h1,decide_eq_true h2]
 rfl
theorem cm1:0<M.cmpL (unS bB) (unS Ks):=by
 have:M.cmpL (unS bB) (unS Ks)=1:=by kernel_rfl
 omega
theorem cm2:0<M.cmpL (unS aB) (unS Ks):=by
 have:M.cmpL (unS aB) (unS Ks)=1:=by kernel_rfl
 omega
theorem cm3:0<M.cmpL (unS Yx) (unS Ks):=by
 have:M.cmpL (unS Yx) (unS Ks)=1:=by kernel_rfl
 omega
theorem pf_iff {p:EX} (W:p.Wf) (s:ByteArray):(p.pF s).isSome=true↔s∈p.l.map (·.n):=by
 constructor
 ·intro h
  cases hp:p.pF s with
  |none=>rw[hp] at h;cases h
  |some i=>
   obtain⟨v,hv⟩:=W.hit s i hp
   exact List.mem_map.2 ⟨_,List.mem_of_getElem? hv,rfl⟩
 ·intro h
  obtain⟨a,ha,rfl⟩:=List.mem_map.1 h
  obtain⟨j,hj⟩:=List.getElem?_of_mem ha
  rw[W.all j a hj]
  rfl
theorem Zd8 {p:EX} (W:p.Wf) {s:ByteArray} {i:Nat} (h:p.pF s=some i): ∃b,p.find s=some b/\p.l[i]? =some b/\b.n=s:=by
 obtain⟨v,hv⟩:=W.hit s i h
 refine⟨_, ?_,hv,rfl⟩
 unfold EX.find
 rw[h]
 exact hv
theorem NewX.has {ns:List ByteArray} {p:EX} (h:NewX ns p) {s:ByteArray} (hs:s∈ns): ∃i b,p.pF s=some i/\p.find s=some b/\b.v=zeroV/\b.n=s:=by
 have h1:=(pf_iff h.W s).2 (h.nm.mem_iff.2 hs)
 cases hp:p.pF s with
 |none=>rw[hp] at h1;cases h1
 |some i=>
  obtain⟨b,h2,h3,h4⟩:=Zd8 h.W hp
  exact⟨i,b,rfl,h2,h.z b (List.mem_of_getElem? h3),h4⟩
theorem first_w {p:EX} (h:NewX wN p): ∃x,p.l[0]? =some x/\x.n=Ks/\p.l.length=4:=by
 have hlen:p.l.length=4:=by
  have:=h.nm.length_eq
  rw[List.length_map] at this
  exact this
 obtain⟨x,hx⟩: ∃x,p.l[0]? =some x:=⟨_,List.getElem?_eq_getElem (by omega)⟩
 refine⟨x,hx, ?_,hlen⟩
 have hm:x.n∈wN:=h.nm.mem_iff.1 (List.mem_map.2 ⟨x,List.mem_of_getElem? hx,rfl⟩)
 obtain⟨i,b,h1,h2, -,h4⟩:=h.has (s:=Ks) (by simp[wN])
 obtain⟨v,hv⟩:=h.W.hit Ks i h1
 rcases Nat.eq_zero_or_pos i with rfl|hi
 ·rw[hx] at hv
  cases hv
  rfl
 ·have hc:=h.srt 0 i x _ hi hx hv
  have c1:=cm1
  have c2:=cm2
  have c3:=cm3
  simp only[wN,List.mem_cons,List.not_mem_nil,or_false] at hm
  rcases hm with e|e|e|e
  ·rw[e] at hc
   have hc:M.cmpL (unS bB) (unS Ks)<=0:=hc
   omega
  ·rw[e] at hc
   have hc:M.cmpL (unS aB) (unS Ks)<=0:=hc
   omega
  ·exact e
  ·rw[e] at hc
   have hc:M.cmpL (unS Yx) (unS Ks)<=0:=hc
   omega
theorem Zby (p:EX):(Ez p).length=p.l.length+1:=by simp[Ez,nmK]
theorem Uw {p:EX} {j:Nat} {a:BN} (h:p.l[j]? =some a):(Ez p)[j]? =some ⟨a.n,0⟩:=by
 have hj:=(List.getElem?_eq_some_iff.1 h).1
 unfold Ez
 rw[List.getElem?_append_left (by rw[Qc];exact hj)]
 unfold nmK
 rw[List.getElem?_map,h]
 rfl
theorem Rg (p:EX):(Ez p)[p.l.length]? =some Gg:=by
 unfold Ez
 rw[List.getElem?_append_right (by rw[Qc];exact Nat.le_refl _),Qc,Nat.sub_self]
 rfl
theorem OwnK.thing {w X Y:World} {E:List Nat} {L:List Ob} {h:HP} {V:Value} {KS:List KK} (S:Sy w X E L) (i:Nat) (hi:L[i]? =some (hpO h)) (A:h.To h.less X Y) (hO:OwnK Y X.heap.size V KS):Sy w Y E (L.set i (hpO h.less)++ [Do 0 45 2 V KS.length (flatK KS)]):=
 S.more i hi A (Lk _ _ _ _ _ _) (Vs hO (Nat.zero_le _)) (fun b hb=>(hO.own b (by simpa [Do] using hb)).1) (fun b hb hm=>by
  have h1:=(hO.own b (by simpa [Do] using hb)).1
  have h2:=(S.hp i hi).lt b hm
  omega)
theorem Ox {X:World} {base n:Nat} {V:Value} {KS:List KK} (hO:X.ownsRow base 45 2 V n (flatK KS)) (hn:KS.length=n) {j:Nat} {k:KK} (hk:KS[j]? =some k): ∃g c,V= .slice (some ⟨g,0,none⟩) n c/\X.rangeAt g (0+j * 2) k.cs:=by
 obtain⟨hj,rfl⟩:=List.getElem?_eq_some_iff.1 hk
 obtain⟨g,c,h1, -, -,h2⟩:=Ju (f:=KK.cs) (fun _=>rfl) hO hn j hj
 exact⟨g,c,h1,h2⟩
theorem new_ok (B:Nat) (f:Int) (h0:0<=f) (h1:f<=100000):(Js B 1 f 10).Ok:=⟨(by simp[Js]),h0,(by show f<=9223372036854775807;omega),(show (0:Int)<=0 by decide),(show (0:Int)<=10 by decide),(show (10:Int)<=100000000 by decide)⟩
theorem Sy.newh {w X Y:World} {E:List Nat} {L:List Ob} {h:HP} (S:Sy w X E L) (H:h.Is Y) (hb:Below X.heap.size X Y) (hf: ∀b∈h.blocks,X.heap.size<=b):Sy w Y E (L++ [hpO h]):=S.add (Xp h) H hb hf
theorem ex_bs4 {o:Oper} {a:Act} {w:World} {x0 x1 x2 x3:Operand} {s0 s1 s2 s3:ByteArray} (ho:o.op= .buildSlice 22 4 #[(0,x0),(1,x1),(2,x2),(3,x3)]) (h0:a.eval x0= .string s0) (h1:a.eval x1= .string s1) (h2:a.eval x2= .string s2) (h3:a.eval x3= .string s3):(execOp a.eval o).run Tryz.prog w= .ok (.value (.slice (some ⟨w.heap.size,0,none⟩) 4 4)) (w.alloc (Obj.cells #[.string s0, .string s1, .string s2, .string s3] 9)):=by
 have e:(Instr.buildSlice 22 4 #[(0, .string s0),(1, .string s1),(2, .string s2),(3, .string s3)]).run Tryz.prog w= .ok (.slice (some ⟨w.heap.size,0,none⟩) 4 4) (w.alloc (Obj.cells #[.string s0, .string s1, .string s2, .string s3] 9)):=by kernel_rfl
 unfold execOp
 simp only[ho,List.map_toArray,List.map_cons,List.map_nil,h0,h1,h2,h3]
 simp[e]
theorem bs4 {ops:Array Oper} {rest:List Oper} {Q:Exit->Act->World->Prop} {w w0:World} {a:Act} {o:Oper} {E:List Nat} {L:List Ob} {x0 x1 x2 x3:Operand} {s0 s1 s2 s3:ByteArray} (hw:Region.wanted o (yielded ops a.tmps)=true) (ho:o.op= .buildSlice 22 4 #[(0,x0),(1,x1),(2,x2),(3,x3)]) (h0:a.eval x0= .string s0) (h1:a.eval x1= .string s1) (h2:a.eval x2= .string s2) (h3:a.eval x3= .string s3) (hL:Sy w0 w E L)
  (h: ∀X B,Sy w0 X E (L++ [Ao B [.string s0, .string s1, .string s2, .string s3]])->wpList Tryz.prog ops Q rest (a.put o.dst (.slice (some ⟨B,0,none⟩) 4 4)) X):wpList Tryz.prog ops Q (o::rest) a w:=by
 refine BigFrame.wpList_want hw fun K hK=> ?_
 have hP:=hK _ _ (h _ _ (hL.box [.string s0, .string s1, .string s2, .string s3] 9 (by simp)))
 unfold Oper.wp
 rw[ex_bs4 ho h0 h1 h2 h3]
 exact hP
theorem reads4 {X:World} {B:Nat} (h:Holds X B [.string bB, .string aB, .string Ks, .string Yx]):ReadsN X (some ⟨B,0,none⟩) wN:=fun j s hj=>by
 refine⟨B,0,rfl,h.lt (by simp), ?_⟩
 have hc:([.string bB, .string aB, .string Ks, .string Yx]:List Value)[j]? =some (.string s):=by
  have e:([.string bB, .string aB, .string Ks, .string Yx]:List Value)=wN.map Value.string:=rfl
  rw[e,List.getElem?_map,hj]
  rfl
 have:=h.cell j hc
 rw[Nat.mul_one,Nat.zero_add]
 exact this
theorem goodA:goodK ⟨aB,0⟩=true:=by kernel_rfl
theorem okkA:OkK ⟨aB,0⟩:=⟨by decide,rfl⟩
theorem okA:okN aB:=show aB.size<=maxLen by decide
theorem nul_s:Aw [nullV]=0:=by kernel_rfl
theorem nul_k:Ap 1 [nullV]=0:=by kernel_rfl
theorem num_good (x:Nat):(⟨4,false,x,ByteArray.empty,0⟩:VV).good=true:=by
 simp[VV.good,Ke,Vh,inG]
theorem num_chk (x:Nat):El 1 (Mq x)=0:=by
 have h1:(Mq x).good=true:=num_good x
 unfold El Ap Lb
 rw[h1]
 simp[Mq]
theorem ex_kA {o:Oper} {a:Act} {w:World} (ho:o.op= .build 45 #[(0, .const (.string {data:= #[97]}))]):(execOp a.eval o).run Tryz.prog w= .ok (.value (.agg (KK.cs ⟨aB,0⟩).toArray)) w:=ZaJ ho rfl
