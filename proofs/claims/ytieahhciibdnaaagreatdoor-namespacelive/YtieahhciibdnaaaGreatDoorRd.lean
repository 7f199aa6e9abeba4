import Derived.Test.YtieahhciibdnaaaGreatDoorRc
set_option linter.all false
namespace Go.Proofs.YtieahhciibdnaaaGreatDoor
set_option maxRecDepth 100000
set_option maxHeartbeats 0
section
open Go Go.Proofs Go.Maps Go.RowKit FM Tryz
attribute [local go_sem] Ak Ae Aq Dl Dk Bl Af Aj Ad Bj Et Es
theorem ex_zB {o:Oper} {a:Act} {w:World} (ho:o.op= .build 130 #[]):(execOp a.eval o).run prog w= .ok (.value (.agg Jb.cs.toArray)) w:=by
 have e:(Instr.build 130 #[]).run prog w= .ok (.agg Jb.cs.toArray) w:=by kernel_rfl
 unfold execOp
 simp only[ho]
 simp[e]
def Gz:List Value:= .int .i64 5::zeroV.cs
def Uk (B:Nat):Value:= .iface 136 (.pointer (some ⟨B,0,none⟩))
theorem ex_bR {o:Oper} {a:Act} {w:World} {x:Operand} (ho:o.op= .build 138 #[(0,x)]) (hx:a.eval x= .int .i64 5):(execOp a.eval o).run prog w= .ok (.value (.agg Gz.toArray)) w:=by
 have e:(Instr.build 138 #[(0, .int .i64 5)]).run prog w= .ok (.agg Gz.toArray) w:=by kernel_rfl
 unfold execOp
 simp only[ho,List.map_toArray,List.map_cons,List.map_nil,hx]
 simp[e]
theorem Zdd {p:EX} (W:p.Wf) {s:ByteArray} {b:BN} (h:p.find s=some b): ∃i,p.pF s=some i/\p.l[i]? =some b/\b.n=s:=by
 unfold EX.find at h
 cases hp:p.pF s with
 |none=>rw[hp] at h;cases h
 |some i=>
  rw[hp] at h
  have h':p.l[i]? =some b:=h
  obtain⟨v,hv⟩:=W.hit s i hp
  rw[h'] at hv
  cases hv
  exact⟨i,rfl,h',rfl⟩
theorem fnd_no {p:EX} (W:p.Wf) {s:ByteArray} (h:p.find s=none):p.pF s=none:=by
 unfold EX.find at h
 cases hp:p.pF s with
 |none=>rfl
 |some i=>
  rw[hp] at h
  obtain⟨v,hv⟩:=W.hit s i hp
  have h':p.l[i]? =none:=h
  rw[hv] at h'
  cases h'
theorem find_no (p:EX) (s:ByteArray) (w:World) (H:p.Is w) (W:p.Wf) (hs:okN s) (hf:p.find s=none):Calls prog 237 #[.pointer (some ⟨p.b,0,none⟩), .string s] w fun e w'=>e= .returned (.tuple #[Jb.agg, .bool false])/\Below w.heap.size w w':=by
 have SS:=Ab (Sy.nil w [])
 rw[Og]
 have HR:=Ab (rN (fnd_no W hf))
 go_enter func237,ntmps237
 go_wp2_with (first|go_skip|((with_reducible show wpList ..);first|(refine zA 130 (Jb.cs) (by rfl) rfl SS ?_;clear SS;intro Xb Bb SS;simp only[nn])|(refine rd rfl (Ag 126 isAgg126 rfl rfl ((H.on ((Aa SS).fr.below)).box) rfl) ?_)|(refine rd rfl (Ag 125 isAgg125 rfl rfl ((H.on ((Aa SS).fr.below)).box) rfl) ?_)|(refine rd rfl (ZaG rfl rfl rfl (H.on ((Aa SS).fr.below)).map hs (Aa HR)) ?_)|(refine rd rfl (ex_zB rfl) ?_)|(refine zS (Jb.cs) 0 130 (by rfl) rfl rfl rfl rfl (Ey _) szB SS rfl ?_;clear SS;intro Xz SS;simp only[nn])))
 refine bodyPost_ret (Jt rwB szB rfl rfl rfl ((Aa SS).hold 0 rfl) rfl) rfl ?_
 exact⟨rfl,(Aa SS).fr.below⟩
theorem find_yes (p:EX) (s:ByteArray) (b:BN) (w:World) (H:p.Is w) (W:p.Wf) (hs:okN s) (hf:p.find s=some b):Calls prog 237 #[.pointer (some ⟨p.b,0,none⟩), .string s] w fun e w'=>e= .returned (.tuple #[b.agg, .bool true])/\Below w.heap.size w w':=by
 have SS:=Ab (Sy.nil w [])
 rw[Og]
 obtain⟨i,h1,h2,h3⟩:=Zdd W hf
 have HR:=Ab (rY h1)
 obtain⟨g,c,e1, -⟩:=H.at h2
 have hi:i<p.l.length:=(List.getElem?_eq_some_iff.1 h2).1
 obtain⟨q,hq⟩: ∃q,q=0+i * 6:=⟨_,rfl⟩
 have HB: ∀X,Below w.heap.size w X->Holds X p.b [.slice (some ⟨g,0,none⟩) p.l.length c, .map (some p.pb)]:=fun X k=>by
  have:=(H.on k).box
  unfold ecs at this
  rwa [e1] at this
 have HE: ∀X,Below w.heap.size w X->X.rangeAt g q b.cs:=fun X k=>by
  obtain⟨g2,c2,e2,e3⟩:=(H.on k).at h2
  rw[e1] at e2
  cases e2
  rw[hq]
  exact e3
 have HQ:=Ab hq
 clear hq e1
 go_enter func237,ntmps237
 go_wp2_with (first|go_skip|((with_reducible show wpList ..);first|(refine zA 130 (Jb.cs) (by rfl) rfl SS ?_;clear SS;intro Xb Bb SS;simp only[nn])|(refine rd rfl (Ag 126 isAgg126 rfl rfl (HB _ ((Aa SS).fr.below)) rfl) ?_)|(refine rd rfl (Ag 125 isAgg125 rfl rfl (HB _ ((Aa SS).fr.below)) rfl) ?_)|(refine rd rfl (ZaG rfl rfl rfl (H.on ((Aa SS).fr.below)).map hs (Aa HR)) ?_)|(refine rd rfl (Oz q i rfl rfl rfl hi (Aa HQ)) ?_)|(refine rd rfl (ZaH rfl rfl (HE _ ((Aa SS).fr.below))) ?_)|(refine zS (hp:=(show 0+6<=6 by decide)) (b.cs) 0 130 (by rfl) rfl rfl rfl rfl (Ey _) szB SS rfl ?_;clear SS;intro Xz SS;simp only[nn])))
 refine bodyPost_ret (Jt rwB szB rfl rfl rfl ((Aa SS).hold 0 rfl) rfl) rfl ?_
 exact⟨rfl,(Aa SS).fr.below⟩
theorem Zak (v:VV) (w:World) (hz:v.s.size<=1048576):Calls prog 71 #[v.agg] w fun e w'=>e= .returned (v.agg)/\Below w.heap.size w w':=by
 have SS:=Ab (Sy.nil w [])
 rw[Db]
 go_enter func71,ntmps71
 go_wp2_with (first|go_skip|((with_reducible show wpList ..);first|(refine zB 26 (v.cs) (by rfl) rfl rfl rfl SS ?_;clear SS;intro Xa Ba SS;simp only[nn])|(refine zA 26 (zeroV.cs) (by rfl) rfl SS ?_;clear SS;intro Xb Bb SS;simp only[nn])|(refine z1 9 isAgg9 0 (by rfl) rfl rfl SS rfl rfl ?_;simp only[nn])))
 refine(Gq v.s _ hz).mono ?_
 rintro _ Y ⟨rfl,hb⟩
 replace SS:=Ab ((Aa SS).on hb)
 clear hb
 go_wp2_with (first|go_skip|((with_reducible show wpList ..);first|(refine zS ([.string v.s]) 0 9 (by rfl) rfl rfl rfl rfl (by simp[Value.oneCell']) ((show (prog.info? 9).map (·.size)=some 1 by kernel_rfl)) SS rfl ?_;clear SS;intro Xy SS;simp only[nn])|(refine zL (v.cs) 26 5 0 rwV szV (by rfl) rfl rfl SS rfl rfl rfl ?_;simp only[nn])|(refine zS (v.cs) 1 26 (by rfl) rfl rfl rfl rfl (Ex _) szV SS rfl ?_;clear SS;intro Xz SS;simp only[nn])))
 refine Ol rwV szV rfl rfl rfl ((Aa SS).hold 1 rfl) rfl ?_
 exact⟨rfl,(Aa SS).fr.below⟩
theorem Zck (w:World):Calls prog 238 #[] w fun e w'=> ∃B,e= .returned (Uk B)/\Sy w w' [] [Ao B Gz]:=by
 have SS:=Ab (Sy.nil w [])
 go_enter func238,ntmps238
 go_wp2_with (first|go_skip|((with_reducible show wpList ..);first|(refine rd rfl (ex_bR rfl rfl) ?_)|(refine zB 138 (Gz) (by rfl) rfl rfl rfl SS ?_;clear SS;intro Xr Br SS;simp only[nn])))
 go_ret
 exact⟨_,rfl,Aa SS⟩
theorem read_yes (b:BN) (w:World) (hz:b.v.s.size<=1048576) (hk:b.v.k≠0):Calls prog 235 #[b.agg] w fun e w'=>e= .returned (.tuple #[b.v.agg, .nilIface])/\Below w.heap.size w w':=by
 have SS:=Ab (Sy.nil w [])
 rw[Og,Db]
 go_enter func235,ntmps235
 go_wp2_with (first|go_skip|((with_reducible show wpList ..);first|(refine zB 130 (b.cs) (by rfl) rfl rfl rfl SS ?_;clear SS;intro Xa Ba SS;simp only[nn])|(refine zA 26 (zeroV.cs) (by rfl) rfl SS ?_;clear SS;intro Xb Bb SS;simp only[nn])|(refine z1 3 isAgg3 0 (by rfl) rfl rfl SS rfl rfl ?_;simp only[nn])|(refine rd rfl (Jz rfl rfl rfl hk) ?_)|(refine zL (b.v.cs) 26 5 0 rwV szV (by rfl) rfl rfl SS rfl rfl rfl ?_;simp only[nn])))
 have HC:=fun X=>Zak b.v X hz
 simp only[Db] at HC
 refine(HC _).mono ?_
 clear HC
 rintro _ Y ⟨rfl,hb⟩
 replace SS:=Ab ((Aa SS).on hb)
 clear hb
 go_wp2_with (first|go_skip|((with_reducible show wpList ..);first|(refine zS (b.v.cs) 1 26 (by rfl) rfl rfl rfl rfl (Ex _) szV SS rfl ?_;clear SS;intro Xz SS;simp only[nn])))
 refine bodyPost_ret (Jt rwV szV rfl rfl rfl ((Aa SS).hold 1 rfl) rfl) rfl ?_
 exact⟨rfl,(Aa SS).fr.below⟩
theorem Own_h (h:HP) (j:Nat) (q:OB) (w:World) (H:h.Is w) (hl:h.l.length<=65536) (hj:h.l[j]? =some q):Calls prog 91 #[.pointer (some ⟨h.b,0,none⟩), .int .i64 ((j:Int)+1)] w fun e w'=>e= .returned (ow1 q.ow)/\w'=w:=by
 have hlt:=(List.getElem?_eq_some_iff.1 hj).1
 have hh:Rj ((j:Int)+1) h.l.length=true:=by unfold Rj;simp;omega
 have HO:=Ab (H.ob hj).1
 go_enter func91,ntmps91
 go_wp2_with fail
 refine(ZbF h _ _ H).mono ?_
 rintro _ _ ⟨rfl,rfl⟩
 rw[hh]
 go_wp2_with fail
 refine(Pf h j q _ H hj hl).mono ?_
 rintro _ _ ⟨rfl,rfl⟩
 go_wp2_with (first|go_skip|((with_reducible show wpList ..);first|(refine rd rfl (Ag 20 isAgg20 rfl rfl (Aa HO) rfl) ?_)))
 go_ret
 exact⟨rfl,rfl⟩
theorem ta_ex (v:Value) (w:World):(Instr.typeAssert (.iface 88 v) 20 88 true).run prog w= .ok (.tuple #[v, .bool true]) w:=by
 unfold Instr.typeAssert
 simp[go_sem]
attribute [local go_sem] ta_ex
theorem Zcz (h:HP) (j:Nat) (q:OB) (p:EX) (w:World) (H:h.Is w) (hl:h.l.length<=65536) (hj:h.l[j]? =some q) (ho:q.ow=some (88, .pointer (some ⟨p.b,0,none⟩))):Calls prog 70 #[.pointer (some ⟨h.b,0,none⟩), .int .i64 ((j:Int)+1)] w fun e w'=>e= .returned (.tuple #[.pointer (some ⟨p.b,0,none⟩), .bool true])/\w'=w:=by
 have HC:=Own_h h j q w H hl hj
 rw[ho] at HC
 have HC2:Calls prog 91 #[.pointer (some ⟨h.b,0,none⟩), .int .i64 ((j:Int)+1)] w fun e w'=>e= .returned (.iface 88 (.pointer (some ⟨p.b,0,none⟩)))/\w'=w:=HC
 clear HC
 go_enter func70,ntmps70
 go_wp2_with fail
 refine HC2.mono ?_
 rintro _ _ ⟨rfl,rfl⟩
 go_wp2
 go_ret2
 exact⟨rfl,rfl⟩
