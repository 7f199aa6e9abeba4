import Derived.Test.YthcmamjpfigdfaaGreatDoorRs
set_option linter.all false
namespace Go.Proofs.YthcmamjpfigdfaaGreatDoor
set_option maxRecDepth 100000
set_option maxHeartbeats 0
section
open Go Go.Proofs Go.Maps Go.RowKit Tryz
section
attribute [local go_sem] Jk Oy
theorem check129 (s:ByteArray) (n:Int) (w:World) (hT:Lib.Utf8Tabs 1 2 w):Calls prog 38 #[Zj s n] w fun e w'=>e= .returned (.int .i64 (Vq (Mn s n).good))/\Below w.heap.size w w':=by
 have HA:=Ab (fun w=>ZbI s n w)
 have HI:=Ab (fun w (hT:Lib.Utf8Tabs 1 2 w)=>Jl (Mn s n) w hT)
 have HT:=Ab hT
 unfold Zj at *
 generalize (Mn s n).agg=v at *
 generalize Vq (Mn s n).good=g at *
 clear hT
 go_enter func38,ntmps38
 go_wp2_with fail
 refine(Aa HA _).mono ?_
 rintro e w1 ⟨rfl,hb⟩
 have HB:=Ab (((Gu w _).trans (hb.mono (by simp))))
 clear hb
 go_wp2_with fail
 refine(Aa HI _ (Aj (Aa HT) (Aa HB))).mono ?_
 rintro e w2 ⟨rfl,hb2⟩
 have HB2:=Ab ((Aa HB).trans (hb2.mono (Aa HB).size))
 clear hb2
 go_wp2
 go_ret
 exact⟨rfl,Aa HB2⟩
theorem Zdl {k:KK} (h:goodK k=true):k.s.size<=1048576:=by
 rw[ZaF] at h
 by_cases hn:k.n=0
 ·rw[if_pos hn] at h
  simp at h
  exact h.1
 ·rw[if_neg hn] at h
  simp only[Bool.and_eq_true] at h
  rw[Nz h.2]
  decide
end
theorem laidOut9:laidOutB prog=true:=by kernel_rfl
theorem rowk41:(37:TypeId)<prog.types.size:=of_decide_eq_true (by kernel_rfl)
theorem key41:prog.keyTypeAt 2 37=true:=by kernel_rfl
theorem law41:Keyed prog 37:=Keyed.of_law (deep_law_laid laidOut9 (m:=2) (by omega) rowk41 key41 (by rw[underlying37]))
theorem keyT41:prog.keyType 37=true:=by kernel_rfl
theorem keyOf41 (s:ByteArray) (n:Int) (hs:s.size<=maxLen) (hn:(Lit.int .i64 n).wf=true):keyOf prog 37 (.agg #[.string s, .int .i64 n])=some (Zdh s n):=by
 obtain⟨N,hN⟩:=Zaj
 unfold keyOf
 rw[underlying37]
 simp only[]
 rw[hN]
 have c41:prog.cellsOf 37=2:=by kernel_rfl
 have hf:Value.formed prog 37 (.agg #[.string s, .int .i64 n])=true:=by
  simp[Value.formed,underlying37,underlying3,underlying9,c41]
 have c9:prog.cellsOf 9=1:=by kernel_rfl
 have c3:prog.cellsOf 3=1:=by kernel_rfl
 rw[hf,keyT41]
 simp[Program.keyLits,underlying37,underlying3,underlying9,c9,c3,c41,hs,hn,Value.cells,Zdh]
theorem keyOfK9 {k:KK} (h:OkK k):keyOf prog 37 k.agg=some (kl k):=keyOf41 k.s k.n h.1 h.2
end
section
open Go Go.Proofs Go.Maps Go.RowKit FM Tryz
theorem alG {ops:Array Oper} {rest:List Oper} {Q:Exit->Act->World->Prop} {w w0:World} {a:Act} {o:Oper} {E:List Nat} {L:List (Nat×List Value)} (t:TypeId) (cs:List Value) (hw:Region.wanted o (yielded ops a.tmps)=true) (ho:o.op= .alloc t) (hz: ∀w,(zeroValue t).run prog w= .ok (.agg cs.toArray) w) (hc:0<cs.length) (hL:Hq w0 w E L)
  (h: ∀X B,B=w.heap.size->Hq w0 X E (L++ [(B,cs)])->Below w.heap.size w X->wpList prog ops Q rest (a.put o.dst (.pointer (some ⟨B,0,none⟩))) X):wpList prog ops Q (o::rest) a w:=by
 refine BigFrame.wpList_want hw fun K hK=> ?_
 have hP:=hK _ _ (h _ _ rfl (hL.new cs t hc) ((Below.refl _ _).alloc (Nat.le_refl _) _))
 unfold Oper.wp execOp
 simp only[ho]
 simp[go_sem,hz,Value.cells]
 exact hP
theorem Nm: ∃d,prog.underlying 40=some d/\d.isRow=true:=⟨_,underlying40,rfl⟩
theorem Ly:(prog.info? 40).map (·.size)=some 5:=by kernel_rfl
theorem row28: ∃d,prog.underlying 85=some d/\d.isRow=true:=⟨_,underlying85,rfl⟩
theorem Zbk:(prog.info? 85).map (·.size)=some 8:=by kernel_rfl
theorem Pg: ∃d,prog.underlying 117=some d/\d.isRow=true:=⟨_,underlying117,rfl⟩
theorem Mo:(prog.info? 117).map (·.size)=some 2:=by kernel_rfl
theorem row44: ∃d,prog.underlying 43=some d/\d.isRow=true:=⟨_,underlying43,rfl⟩
theorem siz44:(prog.info? 43).map (·.size)=some 18:=by kernel_rfl
theorem row46: ∃d,prog.underlying 80=some d/\d.isRow=true:=⟨_,underlying80,rfl⟩
theorem ZeY:(prog.info? 80).map (·.size)=some 20:=by kernel_rfl
theorem row41: ∃d,prog.underlying 37=some d/\d.isRow=true:=⟨_,underlying37,rfl⟩
theorem siz41:(prog.info? 37).map (·.size)=some 2:=by kernel_rfl
theorem siz3:(prog.info? 3).map (·.size)=some 1:=by kernel_rfl
theorem idx22 (w:World):(sizeOf (prog.elem 61)).run prog w= .ok 8 w:=by kernel_rfl
theorem und22:prog.underlying 61=some (.slice (prog.elem 61)):=by kernel_rfl
theorem idx26 (w:World):(sizeOf (prog.elem 49)).run prog w= .ok 20 w:=by kernel_rfl
theorem und26:prog.underlying 49=some (.slice (prog.elem 49)):=by kernel_rfl
theorem idx32 (w:World):(sizeOf (prog.elem 54)).run prog w= .ok 1 w:=by kernel_rfl
theorem und32:prog.underlying 54=some (.slice (prog.elem 54)):=by kernel_rfl
theorem idx70 (w:World):(sizeOf (prog.elem 44)).run prog w= .ok 5 w:=by kernel_rfl
theorem und70:prog.underlying 44=some (.slice (prog.elem 44)):=by kernel_rfl
structure PR where
 k:KK
 d:DD
def PR.cs (p:PR):List Value:=p.k.cs++p.d.cs
structure SH where
 c:Int
 p:VV
 x:Bool
 ps:List PR
def SH.cs (s:SH) (A:Option Addr) (cap:Nat):List Value:= [.int .i64 s.c]++s.p.cs++ [.bool s.x, .slice A s.ps.length cap]
theorem Ul (v:VV):v.agg= .agg v.cs.toArray:=rfl
theorem dagg9 (v:DD):v.agg= .agg v.cs.toArray:=rfl
theorem kagg9 (v:KK):v.agg= .agg v.cs.toArray:=rfl
theorem Ze5 (p:PR): ∀u∈p.cs,u.oneCell'=true:=by simp[PR.cs,KK.cs,DD.cs,Value.oneCell']
theorem Zak (p:SH) (A:Option Addr) (cap:Nat): ∀u∈p.cs A cap,u.oneCell'=true:=by simp[SH.cs,VV.cs,Value.oneCell']
theorem ZeU (v:VV): ∀u∈v.cs,u.oneCell'=true:=by simp[VV.cs,Value.oneCell']
def OkP (p:PR):Prop:=FD p.d/\OkK p.k
def ReadsP9 (w:World) (A:Option Addr) (l:List PR):Prop:= ∀j p,l[j]? =some p->OkP p/\ ∃b off,A=some ⟨b,off,none⟩/\b<w.heap.size/\w.rangeAt b (off+j * 20) p.cs
def ReadsS9 (w:World) (A:Option Addr) (l:List SH):Prop:= ∀j s,l[j]? =some s->s.p.x<2^64/\s.ps.length<=733007751850/\ ∃b off SA cap,A=some ⟨b,off,none⟩/\b<w.heap.size/\ReadsP9 w SA s.ps/\w.rangeAt b (off+j * 8) (s.cs SA cap)
theorem ReadsP9.fr {w X:World} {A:Option Addr} {l:List PR} (h:ReadsP9 w A l) (hf:Fr w X []):ReadsP9 X A l:=fun j p hp=>by
 obtain⟨h1,b,off,h2,h3,h4⟩:=h j p hp
 exact⟨h1,b,off,h2,Nat.lt_of_lt_of_le h3 hf.size,Jv h4 h3 hf⟩
theorem ReadsS9.fr {w X:World} {A:Option Addr} {l:List SH} (h:ReadsS9 w A l) (hf:Fr w X []):ReadsS9 X A l:=fun j p hp=>by
 obtain⟨h1,h6,b,off,SA,cap,h2,h3,h5,h4⟩:=h j p hp
 exact⟨h1,h6,b,off,SA,cap,h2,Nat.lt_of_lt_of_le h3 hf.size,h5.fr hf,Jv h4 h3 hf⟩
end
section
open Go Go.Proofs Go.Maps Go.RowKit FM
def obR (v:VV) (n:Nat):Bool:=v.k==7 && !v.b && v.x==0 && v.s.toList.isEmpty && (decide (1<=v.i) && decide (v.i<=(n:Int)))
section
attribute [local go_sem] Ze0 Ze1
end
def obP (v:VV) (n:Nat):Bool:=v.k==7 && decide (v.i<=(n:Int)) && v.good
def prP (v:VV) (n:Nat):Bool:=obP v n||(v.k==2 && v.good)
theorem Zfa (v:VV) (n:Nat) (hn:n<=65536):obP v n=obR v n:=by
 obtain⟨k,b,x,s,i⟩:=v
 unfold obP obR VV.good Mg inG Za7
 dsimp only
 generalize s.toList.isEmpty=q
 generalize Zn s=ft
 by_cases hk:k=7
 ·subst hk
  simp only[bne]
  generalize (x==0)=ex
  by_cases h1:i<=(n:Int)
  ·by_cases h2:1<=i
   ·have h3:i<=65536:=by omega
    cases b<;>cases q<;>cases ex<;>simp[h1,h2,h3]
   ·cases b<;>cases q<;>cases ex<;>simp[h1,h2]
  ·cases b<;>cases q<;>cases ex<;>simp[h1]
 ·have h7:(k==7)=false:=by simp[hk]
  rw[h7]
  simp
theorem ob_id {v:VV} {n:Nat} (h:obR v n=true):1<=v.i/\v.i<=(n:Int):=by
 unfold obR at h
 simp only[Bool.and_eq_true,decide_eq_true_eq] at h
 exact h.2
def nxR (l:List SH) (a:Nat):Option Nat:=match l[a]? with
 |some s=>if s.c==9|| !obR s.p l.length then none else some (s.p.i - 1).toNat
 |none=>none
theorem Zbr {l:List SH} (i j:Nat) (_:i<l.length) (h:nxR l i=some j):j<l.length:=by
 unfold nxR at h
 split at h
 ·rename_i s hs
  split at h
  ·cases h
  ·rename_i hc
   have ho:obR s.p l.length=true:=by
    cases ho:obR s.p l.length with
    |true=>rfl
    |false=>
     rw[ho] at hc
     simp at hc
   have:=ob_id ho
   have e:(s.p.i - 1).toNat=j:=Option.some.inj h
   omega
 ·cases h
def tL (l:List SH) (i:Nat):Bool:=tB (nxR l) l.length i
def Kv (v:VV) (n:Nat):Bool:= !(v.k==7)||obP v n
def okW (n:Nat) (p:PR):Bool:=wholeV p.d && (Kv p.d.v n && Kv p.d.g n && Kv p.d.s n)
def Oo (l:List PR) (i:Nat):Bool:=match l[i]? with
 |some p=>(l.take i).any (fun q=>decide (q.k=p.k))
 |none=>false
def Xo (l:List PR):Nat->Nat
 |0=>0
 |i+1=>if Oo l i then Xo l i else Xo l i+1
def Uj (f:PR->Bool) (l:List PR):Nat->Bool
 |0=>true
 |i+1=>Uj f l i && (match l[i]? with|some p=>f p|none=>true)
def ndT (l:List PR):Nat->Bool
 |0=>true
 |i+1=>ndT l i && !Oo l i
theorem szT_nd (l:List PR): ∀i,Xo l i<=i/\(decide (Xo l i=i)=ndT l i)
 |0=>⟨Nat.le_refl _,rfl⟩
 |i+1=>by
  obtain⟨h1,h2⟩:=szT_nd l i
  unfold Xo ndT
  rw[←h2]
  cases Oo l i
  ·refine⟨by simp;omega, ?_⟩
   simp
  ·refine⟨by simp;omega, ?_⟩
   have: ¬Xo l i=i+1:=by omega
   simp[this]
def Vr (l:List PR):Bool:=Uj (fun p=>goodK p.k) l l.length && decide (Xo l l.length=l.length)
def whV (n:Nat) (l:List PR):Bool:=Uj (okW n) l l.length
theorem Ui {f:PR->Bool} {l:List PR} {i:Nat} {p:PR} (hp:l[i]? =some p) (hf:f p=false):Uj f l l.length=false:=by
 have h: ∀m,Uj f l (i+1+m)=false:=by
  intro m
  induction m with
  |zero=>
   unfold Uj
   rw[hp]
   simp[hf]
  |succ m ih=>
   rw[show i+1+(m+1)=(i+1+m)+1 by omega]
   unfold Uj
   rw[ih]
   rfl
 have hl:=(List.getElem?_eq_some_iff.1 hp).1
 obtain⟨m,hm⟩:=Nat.exists_eq_add_of_le (show i+1<=l.length by omega)
 rw[hm]
 exact h m
def FirstBad (bad:Nat->Bool) (n:Nat) (r:Int):Prop:=(r= -1/\ ∀j,j<n->bad j=false)∨ ∃i:Nat,i<n/\r=(i:Int)/\bad i=true/\ ∀j,j<i->bad j=false
def Yw (l:List SH) (i:Nat):Bool:=match l[i]? with
 |some s=> !prP s.p l.length|| !tL l i|| !Vr s.ps|| !whV l.length s.ps
 |none=>false
end
section
open Go Go.Proofs Go.Maps Go.RowKit FM Tryz
theorem Uw (A:Option Addr) (n cap:Nat) (M:Value) (v:VV) (w:World) (hT:Lib.Utf8Tabs 1 2 w) (hgd:v.k=7->obP v n=true):Calls prog 96 #[.agg #[.slice A n cap,M],v.agg] w fun e w'=>e= .returned (.bool (obP v n))/\Below w.heap.size w w':=by
 have LL:=Ab (Hq.nil w [])
 have HT:=Ab hT
 clear hT
 rw[Ul]
 unfold obP
 by_cases hk:v.k=7
 ·have hk2:(v.k==7)=true:=by simp[hk]
  have hgd2:=hgd hk
  unfold obP at hgd2
  rw[hk2,Bool.true_and,Bool.and_eq_true,decide_eq_true_eq] at hgd2
  have H2:=Ab hgd2.1
  have HGD:=Ab hgd2.2
  rw[hk2,Bool.true_and]
  clear hk hgd hgd2
  by_cases h2:v.i<=(n:Int)
  ·have d2:=decide_eq_true h2
   rw[d2,Bool.true_and]
   have HC:=Ab (fun w hT=>Jl v w hT)
   rw[Ul] at HC
   generalize hg:v.good=g at *
   go_enter func96,ntmps96
   go_wp2_with (first|go_skip|((with_reducible show wpList ..);first|((refine bx 117 ([.slice A n cap,M]) (by rfl) rfl rfl rfl (Nat.succ_pos _) (Aa LL) ?_);intro X1 B1 hE1 L1 hb1;have hB1:=Ab (Nat.le_trans (Aa LL).fr.size (Nat.le_of_eq hE1.symm));replace LL:=Ab L1;clear L1 hb1 hE1;simp only[nn])|((refine bx 40 (v.cs) (by rfl) rfl rfl rfl (Nat.succ_pos _) (Aa LL) ?_);intro X2 B2 hE2 L2 hb2;have hB2:=Ab (Nat.le_trans (Aa LL).fr.size (Nat.le_of_eq hE2.symm));replace LL:=Ab L2;clear L2 hb2 hE2;simp only[nn])|(refine rd rfl (Ad 3 isAgg3 rfl rfl ((Aa LL).get 1 rfl) rfl) ?_)|(refine rd rfl (Ad 61 isAgg61 rfl rfl ((Aa LL).get 0 rfl) rfl) ?_)|(refine rd rfl (Bm 61 85 underlying61 rfl rfl) ?_)|(refine rd rfl (Af (vs:=v.cs) 40 5 Nm Ly rfl rfl ((Aa LL).get 1 rfl) rfl rfl) ?_)))
   refine(Aa HC _ (Aj (Aa HT) (Aa LL).fr.below)).mono ?_
   rintro e X3 ⟨rfl,hb⟩
   replace LL:=Ab ((Aa LL).on hb)
   clear hb hg
   cases g
   ·exact absurd (Aa HGD) (by decide)
   ·go_wp2_with (go_skip)
    go_ret
    exact⟨rfl,(Aa LL).fr.below⟩
  ·exact absurd (Aa H2) h2
 ·have hk2:(v.k==7)=false:=by simp[hk]
  rw[hk2,Bool.false_and,Bool.false_and]
  go_enter func96,ntmps96
  go_wp2_with (first|go_skip|((with_reducible show wpList ..);first|((refine bx 117 ([.slice A n cap,M]) (by rfl) rfl rfl rfl (Nat.succ_pos _) (Aa LL) ?_);intro X1 B1 hE1 L1 hb1;have hB1:=Ab (Nat.le_trans (Aa LL).fr.size (Nat.le_of_eq hE1.symm));replace LL:=Ab L1;clear L1 hb1 hE1;simp only[nn])|((refine bx 40 (v.cs) (by rfl) rfl rfl rfl (Nat.succ_pos _) (Aa LL) ?_);intro X2 B2 hE2 L2 hb2;have hB2:=Ab (Nat.le_trans (Aa LL).fr.size (Nat.le_of_eq hE2.symm));replace LL:=Ab L2;clear L2 hb2 hE2;simp only[nn])|(refine rd rfl (Ad 3 isAgg3 rfl rfl ((Aa LL).get 1 rfl) rfl) ?_)))
  go_ret
  exact⟨rfl,(Aa LL).fr.below⟩
theorem ZdY (A:Option Addr) (n cap:Nat) (M:Value) (v:VV) (w:World) (hT:Lib.Utf8Tabs 1 2 w) (hgd:prP v n=true):Calls prog 48 #[.agg #[.slice A n cap,M],v.agg] w fun e w'=>e= .returned (.bool (prP v n))/\Below w.heap.size w w':=by
 have LL:=Ab (Hq.nil w [])
 have HT:=Ab hT
 clear hT
 rw[Ul,hgd]
 have HC:=Ab (fun w hT=>Jl v w hT)
 rw[Ul] at HC
 by_cases hk:v.k=2
 ·have hk2:(v.k==2)=true:=by simp[hk]
  have hob:obP v n=false:=by unfold obP;simp[hk]
  have hg:v.good=true:=by
   unfold prP at hgd
   rw[hob,hk2] at hgd
   simpa using hgd
  have HO:=Ab (fun w hT=>Uw A n cap M v w hT (fun h7=>by rw[hk] at h7;exact absurd h7 (by decide)))
  rw[Ul,hob] at HO
  rw[hg] at HC
  clear hk hg hob hgd
  go_enter func48,ntmps48
  go_wp2_with (first|go_skip|((with_reducible show wpList ..);first|((refine bx 117 ([.slice A n cap,M]) (by rfl) rfl rfl rfl (Nat.succ_pos _) (Aa LL) ?_);intro X1 B1 hE1 L1 hb1;have hB1:=Ab (Nat.le_trans (Aa LL).fr.size (Nat.le_of_eq hE1.symm));replace LL:=Ab L1;clear L1 hb1 hE1;simp only[nn])|((refine bx 40 (v.cs) (by rfl) rfl rfl rfl (Nat.succ_pos _) (Aa LL) ?_);intro X2 B2 hE2 L2 hb2;have hB2:=Ab (Nat.le_trans (Aa LL).fr.size (Nat.le_of_eq hE2.symm));replace LL:=Ab L2;clear L2 hb2 hE2;simp only[nn])|(refine rd rfl (Af (vs:= [.slice A n cap,M]) 117 2 Pg Mo rfl rfl ((Aa LL).get 0 rfl) rfl rfl) ?_)|(refine rd rfl (Af (vs:=v.cs) 40 5 Nm Ly rfl rfl ((Aa LL).get 1 rfl) rfl rfl) ?_)))
  refine(Aa HO _ (Aj (Aa HT) (Aa LL).fr.below)).mono ?_
  rintro e X3 ⟨rfl,hb⟩
  replace LL:=Ab ((Aa LL).on hb)
  clear hb
  go_wp2_with (first|go_skip|((with_reducible show wpList ..);first|(refine rd rfl (Ad 3 isAgg3 rfl rfl ((Aa LL).get 1 rfl) rfl) ?_)|(refine rd rfl (Af (vs:=v.cs) 40 5 Nm Ly rfl rfl ((Aa LL).get 1 rfl) rfl rfl) ?_)))
  refine(Aa HC _ (Aj (Aa HT) (Aa LL).fr.below)).mono ?_
  rintro e X4 ⟨rfl,hb⟩
  replace LL:=Ab ((Aa LL).on hb)
  clear hb
  go_wp2_with (go_skip)
  go_ret
  exact⟨rfl,(Aa LL).fr.below⟩
 ·have hk2:(v.k==2)=false:=by simp[hk]
  have hob:obP v n=true:=by
   unfold prP at hgd
   rw[hk2] at hgd
   simpa using hgd
  have HO:=Ab (fun w hT=>Uw A n cap M v w hT (fun _=>hob))
  rw[Ul,hob] at HO
  clear hk hob hgd HC
  go_enter func48,ntmps48
  go_wp2_with (first|go_skip|((with_reducible show wpList ..);first|((refine bx 117 ([.slice A n cap,M]) (by rfl) rfl rfl rfl (Nat.succ_pos _) (Aa LL) ?_);intro X1 B1 hE1 L1 hb1;have hB1:=Ab (Nat.le_trans (Aa LL).fr.size (Nat.le_of_eq hE1.symm));replace LL:=Ab L1;clear L1 hb1 hE1;simp only[nn])|((refine bx 40 (v.cs) (by rfl) rfl rfl rfl (Nat.succ_pos _) (Aa LL) ?_);intro X2 B2 hE2 L2 hb2;have hB2:=Ab (Nat.le_trans (Aa LL).fr.size (Nat.le_of_eq hE2.symm));replace LL:=Ab L2;clear L2 hb2 hE2;simp only[nn])|(refine rd rfl (Af (vs:= [.slice A n cap,M]) 117 2 Pg Mo rfl rfl ((Aa LL).get 0 rfl) rfl rfl) ?_)|(refine rd rfl (Af (vs:=v.cs) 40 5 Nm Ly rfl rfl ((Aa LL).get 1 rfl) rfl rfl) ?_)))
  refine(Aa HO _ (Aj (Aa HT) (Aa LL).fr.below)).mono ?_
  rintro e X3 ⟨rfl,hb⟩
  replace LL:=Ab ((Aa LL).on hb)
  clear hb
  go_wp2_with (go_skip)
  go_ret
  exact⟨rfl,(Aa LL).fr.below⟩
def zer:List Nat->Nat
 | []=>0
 |m::r=>(if m=0 then 1 else 0)+zer r
theorem ZeS: ∀(l:List Nat) (a m:Nat),l[a]? =some 0->0<m->zer (l.set a m)+1=zer l
 | [],a,m,h,_=>by simp at h
 |x::l,0,m,h,hm=>by
  simp at h
  subst h
  have: ¬m=0:=by omega
  simp[zer,this]
  omega
 |x::l,a+1,m,h,hm=>by
  have:=ZeS l a m (by simpa using h) hm
  simp only[List.set_cons_succ,zer]
  omega
def mc (l:List Nat):List Value:=l.map fun m=> .int .i64 (m:Nat)
theorem mc_get {l:List Nat} {a m:Nat} (h:l[a]? =some m):(mc l)[0+a * 1]? =some (.int .i64 (m:Nat)):=by
 rw[Nat.zero_add,Nat.mul_one]
 simp[mc,h]
theorem Qm (l:List Nat):(mc l).length=l.length:=by simp[mc]
theorem mc_set {l:List Nat} {a i:Nat} (h:a<l.length):Bo (mc l) (0+a * 1) [.int .i64 ((i:Int)+1)]=mc (l.set a (i+1)):=by
 rw[Nat.zero_add,Nat.mul_one]
 unfold Bo mc
 rw[List.map_set]
 have e:Value.int .i64 (((i+1:Nat)):Int)= .int .i64 ((i:Int)+1):=by simp
 rw[e,List.set_eq_take_append_cons_drop,if_pos (by simpa using h)]
 simp
def ZbK (l:List SH) (met:List Nat) (i:Nat):Prop:= ∀j m,met[j]? =some m->m≠0->1<=m/\m<=i/\tL l j=true
structure RInv (l:List SH) (i:Nat) (met:List Nat) (a:Nat) (on:Bool):Prop where
 len:met.length=l.length
 hi:i<l.length
 all: ∀j m,met[j]? =some m->m≠0->(m=i+1/\(∃k,runN (nxR l) k i=some j)/\(on=true-> ∃q,1<=q/\runN (nxR l) q j=some a))∨(1<=m/\m<=i/\tL l j=true)
 yes:on=true->a<l.length/\ ∃k,runN (nxR l) k i=some a
 no:on=false->tL l i=true
theorem RInv.start {l:List SH} {i:Nat} {met:List Nat} (h:ZbK l met i) (hl:met.length=l.length) (hi:i<l.length):RInv l i met i true:=
 ⟨hl,hi,fun j m hj hm=> .inr (h j m hj hm),fun _=>⟨hi,0,rfl⟩,fun h=>by cases h⟩
theorem RInv.step {l:List SH} {i:Nat} {met:List Nat} {a z:Nat} (h:RInv l i met a true) (hz:nxR l a=some z):RInv l i (met.set a (i+1)) z true:=by
 obtain⟨ha,k,hk⟩:=h.yes rfl
 have hz1:runN (nxR l) 1 a=some z:=by
  rw[runN,hz]
  rfl
 refine⟨by simp[h.len],h.hi,fun j m hj hm=> ?_,fun _=>⟨Zbr a z ha hz,k+1,ZcX hk hz⟩,fun h=>by cases h⟩
 rw[List.getElem?_set] at hj
 split at hj
 ·rename_i e
  subst e
  split at hj
  ·have e2:i+1=m:=Option.some.inj hj
   exact .inl ⟨e2.symm,⟨k,hk⟩,fun _=>⟨1,Nat.le_refl _,hz1⟩⟩
  ·cases hj
 ·rcases h.all j m hj hm with ⟨h1,h2,h3⟩|h1
  ·obtain⟨q,hq,hq2⟩:=h3 rfl
   exact .inl ⟨h1,h2,fun _=>⟨q+1,by omega,ZcX hq2 hz⟩⟩
  ·exact .inr h1
theorem RInv.stop {l:List SH} {i:Nat} {met:List Nat} {a z:Nat} (h:RInv l i met a true) (hz:nxR l a=none):RInv l i (met.set a (i+1)) z false:=by
 obtain⟨ha,k,hk⟩:=h.yes rfl
 have ht:tL l i=true:=(ZdN Zbr h.hi hk).trans (tB_none hz)
 refine⟨by simp[h.len],h.hi,fun j m hj hm=> ?_,(fun h=>by cases h),fun _=>ht⟩
 rw[List.getElem?_set] at hj
 split at hj
 ·rename_i e
  subst e
  split at hj
  ·have e2:i+1=m:=Option.some.inj hj
   exact .inl ⟨e2.symm,⟨k,hk⟩,(fun h=>by cases h)⟩
  ·cases hj
 ·rcases h.all j m hj hm with ⟨h1,h2,h3⟩|h1
  ·exact .inl ⟨h1,h2,(fun h=>by cases h)⟩
  ·exact .inr h1
theorem RInv.good {l:List SH} {i:Nat} {met:List Nat} {a:Nat} {on:Bool} (h:RInv l i met a on) (ht:tL l i=true):ZbK l met (i+1):=by
 intro j m hj hm
 rcases h.all j m hj hm with ⟨h1,⟨k,hk⟩,_⟩|⟨h1,h2,h3⟩
 ·exact⟨by omega,by omega,(ZdN Zbr h.hi hk).symm.trans ht⟩
 ·exact⟨h1,by omega,h3⟩
theorem RInv.last {l:List SH} {i:Nat} {met:List Nat} {a m:Nat} (h:RInv l i met a true) (hm:met[a]? =some m) (h0:m≠0):decide (m=i+1)= !tL l i:=by
 obtain⟨ha,k,hk⟩:=h.yes rfl
 have ht:tL l i=tL l a:=ZdN Zbr h.hi hk
 rcases h.all a m hm h0 with ⟨h1,_,h3⟩|⟨h1,h2,h3⟩
 ·obtain⟨q,hq,hq2⟩:=h3 rfl
  have:tL l a=false:=tB_round Zbr ha hq hq2
  rw[ht,this,decide_eq_true h1]
  rfl
 ·rw[ht,h3,decide_eq_false (by omega)]
  rfl
def zeroS:SH:=⟨0,Av,false, []⟩
def nxT:Option Nat->Value
 |none=> .tuple #[.int .i64 0, .bool false]
 |some j=> .tuple #[.int .i64 (j:Nat), .bool true]
theorem next20 (A:Option Addr) (cap:Nat) (M:Value) (l:List SH) (a:Nat) (w:World) (hR:ReadsS9 w A l) (hn:l.length<=65536) (ha:a<l.length) (hT:Lib.Utf8Tabs 1 2 w) (hgl: ∀s∈l,s.c≠9/\(s.p.k=7->obP s.p l.length=true)):Calls prog 97 #[.agg #[.slice A l.length cap,M], .int .i64 (a:Nat)] w fun e w'=>e= .returned (nxT (nxR l a))/\Below w.heap.size w w':=by
 obtain⟨s,hs⟩: ∃s,l[a]? =some s:=⟨_,List.getElem?_eq_getElem ha⟩
 obtain⟨_,_,b,off,SA,sc,hA,hb,_,hrg⟩:=hR a s hs
 have HA2:Hid (∀X,Fr w X []->X.rangeAt b (off+a * 8) (s.cs SA sc)):=Ab (fun X hX=>Jv hrg hb hX)
 have HLT:=Ab ha
 have LL:=Ab (Hq.nil w [])
 have HT:=Ab hT
 have HO:=Ab (fun w hT=>Uw A l.length cap M s.p w hT (hgl s (List.mem_of_getElem? hs)).2)
 rw[Ul] at HO
 have hnx:nxR l a=if s.c==9|| !obP s.p l.length then none else some (s.p.i - 1).toNat:=by
  unfold nxR
  rw[hs,Zfa _ _ hn]
 rw[hnx]
 have hid:obP s.p l.length=true->1<=s.p.i/\s.p.i<=(l.length:Int):=fun h=>ob_id (by rw[←Zfa _ _ hn];exact h)
 have hc9:=(hgl s (List.mem_of_getElem? hs)).1
 subst hA
 clear hgl hT hR hb hrg ha hs hnx
 by_cases hc:s.c=9
 ·exact absurd hc hc9
 ·have hc2:(s.c==9)=false:=by simp[hc]
  rw[hc2,Bool.false_or]
  clear hc hc9
  generalize obP s.p l.length=ob at *
  cases ob
  ·rw[Bool.not_false,if_pos rfl]
   clear hid
   unfold nxT
   go_enter func97,ntmps97
   go_wp2_with (first|go_skip|((with_reducible show wpList ..);first|((refine bx 117 ([.slice (some ⟨b,off,none⟩) l.length cap,M]) (by rfl) rfl rfl rfl (Nat.succ_pos _) (Aa LL) ?_);intro X1 B1 hE1 L1 hb1;have hB1:=Ab (Nat.le_trans (Aa LL).fr.size (Nat.le_of_eq hE1.symm));replace LL:=Ab L1;clear L1 hb1 hE1;simp only[nn])|(refine rd rfl (Ad 61 isAgg61 rfl rfl ((Aa LL).get 0 rfl) rfl) ?_)|(refine rd rfl (Ax 61 8 a und22 idx22 rfl rfl rfl (Aa HLT)) ?_)|(refine rd rfl (Bp (vs:=s.cs SA sc) 85 8 row28 Zbk rfl rfl (Aa HA2 _ (Aa LL).fr) rfl) ?_)|((refine alG 85 (zeroS.cs none 0) (by rfl) rfl (fun w=>by kernel_rfl) (Nat.succ_pos _) (Aa LL) ?_);intro X3 B3 hE3 L3 hb3;have hB3:=Ab (Nat.le_trans (Aa LL).fr.size (Nat.le_of_eq hE3.symm));replace LL:=Ab L3;clear L3 hb3 hE3;simp only[nn])|((refine st (vs:=s.cs SA sc) 1 85 (by rfl) rfl rfl rfl rfl (Zak s SA sc) (Zbk) (Aa LL) rfl (by simp[Bo,PR.cs,SH.cs,VV.cs,KK.cs,DD.cs]) (Or.inr (Aa hB3)) ?_);intro X4 L4 hf4 hs4;replace LL:=Ab L4;clear L4 hf4 hs4;simp only[nn])|(refine rd rfl (Ad 3 isAgg3 rfl rfl ((Aa LL).get 1 rfl) rfl) ?_)|(refine rd rfl (Af (vs:= [.slice (some ⟨b,off,none⟩) l.length cap,M]) 117 2 Pg Mo rfl rfl ((Aa LL).get 0 rfl) rfl rfl) ?_)|(refine rd rfl (Af (vs:=s.p.cs) 40 5 Nm Ly rfl rfl ((Aa LL).get 1 rfl) rfl rfl) ?_)))
   refine(Aa HO _ (Aj (Aa HT) (Aa LL).fr.below)).mono ?_
   rintro e X5 ⟨rfl,hb⟩
   replace LL:=Ab ((Aa LL).on hb)
   clear hb
   go_wp2_with (go_skip)
   simp[bodyPost,results,Tryz.results97,go_sem]
   exact(Aa LL).fr.below
  ·rw[Bool.not_true,if_neg (by decide)]
   obtain⟨h1,h2⟩:=hid rfl
   obtain⟨j,hj⟩: ∃j:Nat,s.p.i - 1=(j:Int):=⟨(s.p.i - 1).toNat,by omega⟩
   have ej:(s.p.i - 1).toNat=j:=by omega
   rw[ej]
   have hwr:IntKind.i64.wrap (s.p.i - 1)=(j:Int):=by rw[hj,IntKind.wrap_i64];omega
   clear hid h1 h2 ej hj
   unfold nxT
   go_enter func97,ntmps97
   go_wp2_with (first|go_skip|((with_reducible show wpList ..);first|((refine bx 117 ([.slice (some ⟨b,off,none⟩) l.length cap,M]) (by rfl) rfl rfl rfl (Nat.succ_pos _) (Aa LL) ?_);intro X1 B1 hE1 L1 hb1;have hB1:=Ab (Nat.le_trans (Aa LL).fr.size (Nat.le_of_eq hE1.symm));replace LL:=Ab L1;clear L1 hb1 hE1;simp only[nn])|(refine rd rfl (Ad 61 isAgg61 rfl rfl ((Aa LL).get 0 rfl) rfl) ?_)|(refine rd rfl (Ax 61 8 a und22 idx22 rfl rfl rfl (Aa HLT)) ?_)|(refine rd rfl (Bp (vs:=s.cs SA sc) 85 8 row28 Zbk rfl rfl (Aa HA2 _ (Aa LL).fr) rfl) ?_)|((refine alG 85 (zeroS.cs none 0) (by rfl) rfl (fun w=>by kernel_rfl) (Nat.succ_pos _) (Aa LL) ?_);intro X3 B3 hE3 L3 hb3;have hB3:=Ab (Nat.le_trans (Aa LL).fr.size (Nat.le_of_eq hE3.symm));replace LL:=Ab L3;clear L3 hb3 hE3;simp only[nn])|((refine st (vs:=s.cs SA sc) 1 85 (by rfl) rfl rfl rfl rfl (Zak s SA sc) (Zbk) (Aa LL) rfl (by simp[Bo,PR.cs,SH.cs,VV.cs,KK.cs,DD.cs]) (Or.inr (Aa hB3)) ?_);intro X4 L4 hf4 hs4;replace LL:=Ab L4;clear L4 hf4 hs4;simp only[nn])|(refine rd rfl (Ad 3 isAgg3 rfl rfl ((Aa LL).get 1 rfl) rfl) ?_)|(refine rd rfl (Af (vs:= [.slice (some ⟨b,off,none⟩) l.length cap,M]) 117 2 Pg Mo rfl rfl ((Aa LL).get 0 rfl) rfl rfl) ?_)|(refine rd rfl (Af (vs:=s.p.cs) 40 5 Nm Ly rfl rfl ((Aa LL).get 1 rfl) rfl rfl) ?_)))
   refine(Aa HO _ (Aj (Aa HT) (Aa LL).fr.below)).mono ?_
   rintro e X5 ⟨rfl,hb⟩
   replace LL:=Ab ((Aa LL).on hb)
   clear hb
   go_wp2_with (first|go_skip|((with_reducible show wpList ..);(refine rd rfl (Ad 3 isAgg3 rfl rfl ((Aa LL).get 1 rfl) rfl) ?_)))
   simp[bodyPost,results,Tryz.results97,go_sem]
   exact(Aa LL).fr.below
def RPost (w:World) (g:Nat) (l:List SH) (i:Nat) (e:Ending) (w':World):Prop:= ∃met:List Nat,e= .returned (.bool (!tL l i))/\Fr w w' [g]/\Holds w' g (mc met)/\met.length=l.length/\(tL l i=true->ZbK l met (i+1))
theorem round9 (A:Option Addr) (cap c g:Nat) (l:List SH) (met:List Nat) (i:Nat) (w0 w:World) (hR:ReadsS9 w0 A l) (h0:Fr w0 w []) (hg:w0.heap.size<=g) (hn:l.length<=65536) (hi:i<l.length) (hM:Holds w g (mc met)) (hml:met.length=l.length) (hG:ZbK l met i) (hT:Lib.Utf8Tabs 1 2 w0) (hgl: ∀s∈l,s.c≠9/\(s.p.k=7->obP s.p l.length=true)):Calls prog 49 #[.agg #[.slice A l.length cap, .slice (some ⟨g,0,none⟩) l.length c], .int .i64 (i:Nat)] w (RPost w g l i):=by
 have HGL:=Ab hgl
 have H0:=Ab h0
 have HG:=Ab hg
 have HR:=Ab hR
 have HT:=Ab hT
 have HN:=Ab hn
 have HS:=Ab (RInv.start hG hml hi)
 have LL:Hid (Hq w w [g] [(g,mc met)]):=Ab ((Hq.nil w [g]).add hM (by rw[Qm];omega) (by simp))
 have hw1:IntKind.i64.wrap ((i:Int)+1)=(i:Int)+1:=by rw[IntKind.wrap_i64];omega
 clear hgl h0 hg hR hT hn hG hi hM hml
 go_enter func49,ntmps49
 go_wp2_with (first|go_skip|((with_reducible show wpList ..);((refine bx 117 ([.slice A l.length cap, .slice (some ⟨g,0,none⟩) l.length c]) (by rfl) rfl rfl rfl (Nat.succ_pos _) (Aa LL) ?_);intro X1 B1 hE1 L1 hb1;have hB1:=Ab (Nat.le_trans (Aa LL).fr.size (Nat.le_of_eq hE1.symm));replace LL:=Ab L1;clear L1 hb1 hE1;simp only[nn])))
 go_loopg [5,6] (zer met) (fun gm s5 s6 wr=> ∃(a:Nat) (met1:List Nat),s5= .int .i64 (a:Nat)/\zer met1<=gm/\Hid (Hq w wr [g] [(g,mc met1),(B1, [.slice A l.length cap, .slice (some ⟨g,0,none⟩) l.length c])])/\((s6= .bool true/\Hid (RInv l i met1 a true))∨(s6= .bool false/\Hid (RInv l i met1 a false))))
 case atStart=>exact⟨i,met,rfl,Nat.le_refl _,LL, .inl ⟨rfl,HS⟩⟩
 case round=>
  clear LL HS
  obtain⟨a,met1,rfl,hgm,LL,⟨rfl,HI⟩|⟨rfl,HI⟩⟩:=hrel
  ·have ha:=((Aa HI).yes rfl).1
   have HLT:=Ab ha
   obtain⟨m,hm⟩: ∃m,met1[a]? =some m:=⟨_,List.getElem?_eq_getElem (by rw[(Aa HI).len];exact ha)⟩
   have HME:=Ab (mc_get hm)
   by_cases h0:m=0
   ·subst h0
    have HPUT:Hid (0+a * 1+ [Value.int .i64 ((i:Int)+1)].length<=(mc met1).length):=Ab (by rw[Qm,(Aa HI).len];simp;omega)
    have HSET:=Ab (mc_set (l:=met1) (i:=i) (by rw[(Aa HI).len];exact ha))
    have HZ:=Ab (ZeS met1 a (i+1) hm (by omega))
    clear hm ha
    go_wp2_with (first|go_skip|((with_reducible show wpList ..);first|((refine st (vs:= [.int .i64 ((i:Int)+1)]) 0 3 (by rfl) rfl rfl rfl rfl (by simp[Value.oneCell']) siz3 (Aa LL) rfl (Aa HPUT) (Or.inl (by simp)) ?_);intro X4 L4 hf4 hs4;replace LL:=Ab L4;clear L4 hf4 hs4;simp only[nn])|(refine rd rfl (Ad 54 isAgg54 rfl rfl ((Aa LL).get 1 rfl) rfl) ?_)|(refine rd rfl (Ax 54 1 a und32 idx32 rfl rfl rfl (Aa HLT)) ?_)|(refine rd rfl (Ad 3 isAgg3 rfl rfl ((Aa LL).get 0 rfl) (Aa HME)) ?_)|(refine rd rfl (Af (vs:= [.slice A l.length cap, .slice (some ⟨g,0,none⟩) l.length c]) 117 2 Pg Mo rfl rfl ((Aa LL).get 1 rfl) rfl rfl) ?_)))
    replace LL:Hid (Hq w X4 [g] [(g,mc (met1.set a (i+1))),(B1, [.slice A l.length cap, .slice (some ⟨g,0,none⟩) l.length c])]):=Ab (by have h:=Aa LL;rw[←Aa HSET];exact h)
    have HF:Hid (Fr w0 X4 []):=Ab ((Aa H0).trans (Aa LL).fr (fun b hb=> .inr (by obtain rfl:b=g:=(by simpa using hb);exact Aa HG)))
    refine(next20 A cap _ l a X4 ((Aa HR).fr (Aa HF)) (Aa HN) (Aa HLT) (Aj (Aa HT) (Aa HF).below) (Aa HGL)).mono ?_
    rintro e X5 ⟨rfl,hb⟩
    replace LL:=Ab ((Aa LL).on hb)
    clear hb HF HME HPUT
    cases hz:nxR l a with
    |none=>
     have HI2:=Ab ((Aa HI).stop (z:=0) hz)
     clear hz
     unfold nxT
     go_wp2
     go_roundg (zer (met1.set a (i+1)))
     case measure=>have:=Aa HZ;omega
     case rel=>exact⟨0,met1.set a (i+1),rfl,Nat.le_refl _,LL, .inr ⟨rfl,HI2⟩⟩
    |some z=>
     have HI2:=Ab ((Aa HI).step hz)
     clear hz
     unfold nxT
     go_wp2
     go_roundg (zer (met1.set a (i+1)))
     case measure=>have:=Aa HZ;omega
     case rel=>exact⟨z,met1.set a (i+1),rfl,Nat.le_refl _,LL, .inl ⟨rfl,HI2⟩⟩
   ·have hm0:((m:Int)==0)=false:=by simp;omega
    have HL:=Ab ((Aa HI).last hm h0)
    clear hm ha h0
    by_cases he:m=i+1
    ·have he2:((m:Int)==(i:Int)+1)=true:=by simp;omega
     have he3:(m:Int)=(i:Int)+1:=by omega
     have HTL:Hid ((!tL l i)=true):=Ab (by rw[←Aa HL];exact decide_eq_true he)
     clear he HL
     go_wp2_with (first|go_skip|((with_reducible show wpList ..);first|(refine rd rfl (Ad 54 isAgg54 rfl rfl ((Aa LL).get 1 rfl) rfl) ?_)|(refine rd rfl (Ax 54 1 a und32 idx32 rfl rfl rfl (Aa HLT)) ?_)|(refine rd rfl (Ad 3 isAgg3 rfl rfl ((Aa LL).get 0 rfl) (Aa HME)) ?_)))
     go_ret
     exact⟨met1,(by rw[Aa HTL];rfl),(Aa LL).fr,(Aa LL).get 0 rfl,(Aa HI).len,fun ht=>(Aa HI).good ht⟩
    ·have he2:((m:Int)==(i:Int)+1)=false:=by simp;omega
     have he3: ¬(m:Int)=(i:Int)+1:=by omega
     have HTL:Hid ((!tL l i)=false):=Ab (by rw[←Aa HL];exact decide_eq_false he)
     clear he HL
     go_wp2_with (first|go_skip|((with_reducible show wpList ..);first|(refine rd rfl (Ad 54 isAgg54 rfl rfl ((Aa LL).get 1 rfl) rfl) ?_)|(refine rd rfl (Ax 54 1 a und32 idx32 rfl rfl rfl (Aa HLT)) ?_)|(refine rd rfl (Ad 3 isAgg3 rfl rfl ((Aa LL).get 0 rfl) (Aa HME)) ?_)))
     go_ret
     exact⟨met1,(by rw[Aa HTL];rfl),(Aa LL).fr,(Aa LL).get 0 rfl,(Aa HI).len,fun ht=>(Aa HI).good ht⟩
  ·have HTL:Hid ((!tL l i)=false):=Ab (by rw[(Aa HI).no rfl];rfl)
   go_wp2
   go_ret
   exact⟨met1,(by rw[Aa HTL];rfl),(Aa LL).fr,(Aa LL).get 0 rfl,(Aa HI).len,fun ht=>(Aa HI).good ht⟩
end
section
open Go Go.Proofs Go.Maps Go.RowKit FM
theorem Hq.left {w X:World} {E:List Nat} {L M:List (Nat×List Value)} (h:Hq w X E (L++M)):Hq w X E L:=⟨h.fr,fun q hq=>h.all q (List.mem_append_left _ hq),by
 have:=h.nd
 rw[List.map_append] at this
 exact(List.nodup_append.1 this).1⟩
def ZcG (w:World) (A:Option Addr) (l:List VV):Prop:= ∀j v,l[j]? =some v-> ∃b off,A=some ⟨b,off,none⟩/\b<w.heap.size/\w.rangeAt b (off+j * 5) v.cs
theorem known23 (A:Option Addr) (n cap:Nat) (M:Value) (B:Option Addr) (vcap:Nat) (vs:List VV) (w:World) (hR:ZcG w B vs) (hz:vs.length<=100) (hT:Lib.Utf8Tabs 1 2 w) (hgd:vs.all (fun v=>Kv v n)=true):Calls Tryz.prog 98 #[.agg #[.slice A n cap,M], .slice B vs.length vcap] w fun e w'=>e= .returned (.bool (vs.all (fun v=>Kv v n)))/\Below w.heap.size w w':=by
 have LL:=Ab (Hq.nil w [])
 have HGD:=Ab hgd
 clear hgd
 have HT:=Ab hT
 have HR:=Ab hR
 have HZ:=Ab hz
 clear hT hR hz
 go_enter Tryz.func98,Tryz.ntmps98
 go_wp2_with (first|go_skip|((with_reducible show wpList ..);first|((refine bx 117 ([.slice A n cap,M]) (by rfl) rfl rfl rfl (Nat.succ_pos _) (Aa LL) ?_);intro X1 B1 hE1 L1 hb1;have hB1:=Ab (Nat.le_trans (Aa LL).fr.size (Nat.le_of_eq hE1.symm));replace LL:=Ab L1;clear L1 hb1 hE1;simp only[nn])|(refine rd rfl (Bm 44 40 Tryz.underlying44 rfl rfl) ?_)))
 go_loopg [9] vs.length (fun gm s9 wr=> ∃i:Nat,s9= .int .i64 (i:Nat)/\i<=vs.length/\vs.length - i<=gm/\Hid (∀j v,j<i->vs[j]? =some v->Kv v n=true)/\Hid (Hq w wr [] [(B1, [.slice A n cap,M])]))
 case atStart=>exact⟨0,rfl,by omega,by omega,Ab (fun j v hj=>by omega),LL⟩
 case round=>
  clear LL
  obtain⟨i,rfl,hil,hgm,HD,LL⟩:=hrel
  by_cases hlt:i<vs.length
  ·have dlt:decide ((i:Int)<(vs.length:Int))=true:=decide_eq_true (by omega)
   have hw1:IntKind.i64.wrap ((i:Int)+1)=(i:Int)+1:=by have:=Aa HZ;rw[IntKind.wrap_i64];omega
   obtain⟨v,hv⟩: ∃v,vs[i]? =some v:=⟨_,List.getElem?_eq_getElem hlt⟩
   obtain⟨b,off,hA,hb,hrg⟩:=(Aa HR) i v hv
   subst hA
   have HA2:Hid (∀X,Fr w X []->X.rangeAt b (off+i * 5) v.cs):=Ab (fun X hX=>Jv hrg hb hX)
   have HLT:=Ab hlt
   clear hb hrg hlt hil
   have hov:=List.all_eq_true.1 (Aa HGD) v (List.mem_of_getElem? hv)
   have HO:=Ab (fun w hT=>Uw A n cap M v w hT (fun h7=>by simpa [Kv,h7] using hov))
   clear hov
   rw[Ul] at HO
   have hokv:Kv v n=(!(v.k==7)||obP v n):=rfl
   by_cases hk:v.k=7
   ·have hk2:(v.k==7)=true:=by simp[hk]
    rw[hk2] at hokv
    clear hk
    generalize obP v n=ob at *
    cases ob
    ·exact absurd ((Aa HGD).symm.trans (Oq hv hokv)) (by decide)
    ·have HD2:Hid (∀j u,j<i+1->vs[j]? =some u->Kv u n=true):=Ab (fun j u hj hu=>by
      rcases Nat.lt_or_ge j i with h|h
      ·exact Aa HD j u h hu
      ·obtain rfl:j=i:=by omega
       obtain rfl:v=u:=Option.some.inj (hv.symm.trans hu)
       exact hokv)
     clear hv hokv HD
     go_wp2_with (first|go_skip|((with_reducible show wpList ..);first|(refine rd rfl (Ax 44 5 i und70 idx70 rfl rfl rfl (Aa HLT)) ?_)|(refine rd rfl (Bp (vs:=v.cs) 40 5 Nm Ly rfl rfl (Aa HA2 _ (Aa LL).fr) rfl) ?_)|((refine alG 40 (Av.cs) (by rfl) rfl (fun w=>by kernel_rfl) (Nat.succ_pos _) (Aa LL) ?_);intro X3 B3 hE3 L3 hb3;have hB3:=Ab (Nat.le_trans (Aa LL).fr.size (Nat.le_of_eq hE3.symm));replace LL:=Ab L3;clear L3 hb3 hE3;simp only[nn])|((refine st (vs:=v.cs) 1 40 (by rfl) rfl rfl rfl rfl (ZeU v) (Ly) (Aa LL) rfl (by simp[Bo,PR.cs,SH.cs,VV.cs,KK.cs,DD.cs]) (Or.inr (Aa hB3)) ?_);intro X4 L4 hf4 hs4;replace LL:=Ab L4;clear L4 hf4 hs4;simp only[nn])|(refine rd rfl (Ad 3 Tryz.isAgg3 rfl rfl ((Aa LL).get 1 rfl) rfl) ?_)|(refine rd rfl (Af (vs:= [.slice A n cap,M]) 117 2 Pg Mo rfl rfl ((Aa LL).get 0 rfl) rfl rfl) ?_)|(refine rd rfl (Af (vs:=v.cs) 40 5 Nm Ly rfl rfl ((Aa LL).get 1 rfl) rfl rfl) ?_)))
     refine(Aa HO _ (Aj (Aa HT) (Aa LL).fr.below)).mono ?_
     rintro e X5 ⟨rfl,hb⟩
     replace LL:=Ab ((Aa LL).on hb)
     clear hb
     go_wp2_with fail
     replace LL:=Ab (Hq.left (L:= [(B1, [.slice A n cap,M])]) (M:= [_]) (Aa LL))
     go_wp2
     go_roundg (vs.length - (i+1))
     case measure=>have:=Aa HLT;omega
     case rel=>exact⟨i+1,by go_num,by have:=Aa HLT;omega,by omega,HD2,LL⟩
   ·have hk2:(v.k==7)=false:=by simp[hk]
    rw[hk2] at hokv
    clear hk
    have HD2:Hid (∀j u,j<i+1->vs[j]? =some u->Kv u n=true):=Ab (fun j u hj hu=>by
     rcases Nat.lt_or_ge j i with h|h
     ·exact Aa HD j u h hu
     ·obtain rfl:j=i:=by omega
      obtain rfl:v=u:=Option.some.inj (hv.symm.trans hu)
      exact hokv)
    clear hv hokv HD
    go_wp2_with (first|go_skip|((with_reducible show wpList ..);first|(refine rd rfl (Ax 44 5 i und70 idx70 rfl rfl rfl (Aa HLT)) ?_)|(refine rd rfl (Bp (vs:=v.cs) 40 5 Nm Ly rfl rfl (Aa HA2 _ (Aa LL).fr) rfl) ?_)|((refine alG 40 (Av.cs) (by rfl) rfl (fun w=>by kernel_rfl) (Nat.succ_pos _) (Aa LL) ?_);intro X3 B3 hE3 L3 hb3;have hB3:=Ab (Nat.le_trans (Aa LL).fr.size (Nat.le_of_eq hE3.symm));replace LL:=Ab L3;clear L3 hb3 hE3;simp only[nn])|((refine st (vs:=v.cs) 1 40 (by rfl) rfl rfl rfl rfl (ZeU v) (Ly) (Aa LL) rfl (by simp[Bo,PR.cs,SH.cs,VV.cs,KK.cs,DD.cs]) (Or.inr (Aa hB3)) ?_);intro X4 L4 hf4 hs4;replace LL:=Ab L4;clear L4 hf4 hs4;simp only[nn])|(refine rd rfl (Ad 3 Tryz.isAgg3 rfl rfl ((Aa LL).get 1 rfl) rfl) ?_)))
    replace LL:=Ab (Hq.left (L:= [(B1, [.slice A n cap,M])]) (M:= [_]) (Aa LL))
    go_wp2
    go_roundg (vs.length - (i+1))
    case measure=>have:=Aa HLT;omega
    case rel=>exact⟨i+1,by go_num,by have:=Aa HLT;omega,by omega,HD2,LL⟩
  ·obtain rfl:i=vs.length:=by omega
   have HTA:Hid (vs.all (fun v=>Kv v n)=true):=Ab (Qt (fun j v hj hv=>Aa HD j v hj hv))
   clear hlt hil HD
   go_wp2_with (go_skip)
   go_ret
   exact⟨by rw[Aa HTA];rfl,(Aa LL).fr.below⟩
end
section
open Go Go.Proofs Go.Maps Go.RowKit FM Tryz
def zeroP:PR:=⟨⟨⟨#[]⟩,0⟩,zeroD⟩
theorem fill3 (u v q:VV):Instr.fill (fun i=>some (i * 5,5)) ((Array.range (3 * 5)).map (Av.agg.cells[· % Av.agg.cells.size]!)) [(0,u.agg),(1,v.agg),(2,q.agg)]=some (u.cs++v.cs++q.cs).toArray:=by kernel_rfl
theorem inf25:(prog.info? 40).map (fun i=>(i.zero,i.size,i.bytes))=some (some Av.agg,5,48):=by kernel_rfl
theorem build3 {ops:Array Oper} {rest:List Oper} {Q:Exit->Act->World->Prop} {w w0:World} {a:Act} {o:Oper} {x y z:Operand} {E:List Nat} {L:List (Nat×List Value)} (u v q:VV) (hw:Region.wanted o (yielded ops a.tmps)=true) (ho:o.op= .buildSlice 44 3 #[(0,x),(1,y),(2,z)]) (hx:a.eval x=u.agg) (hy:a.eval y=v.agg) (hz:a.eval z=q.agg) (hL:Hq w0 w E L)
  (h: ∀X B,B=w.heap.size->Hq w0 X E (L++ [(B,u.cs++v.cs++q.cs)])->Below w.heap.size w X->wpList prog ops Q rest (a.put o.dst (.slice (some ⟨B,0,none⟩) 3 3)) X):wpList prog ops Q (o::rest) a w:=by
 refine BigFrame.wpList_want hw fun K hK=> ?_
 obtain⟨i0,hi,hz0,hz1,hz2⟩:=info_parts inf25
 refine wp_buildSlice 44 40 3 _ ho (u.cs++v.cs++q.cs).toArray i0 _ underlying44 hi hz0 (by rw[hz1];omega) (by rw[hz1];omega) ?_ (hK _ _ (h _ _ rfl (hL.new _ 40 (by simp[VV.cs])) ((Below.refl _ _).alloc (Nat.le_refl _) _)))
 rw[hz1]
 simp only[List.map_toArray,List.map_cons,List.map_nil,hx,hy,hz]
 exact fill3 u v q
theorem reads3 {w:World} {B:Nat} {u v q:VV} (h:Holds w B (u.cs++v.cs++q.cs)):ZcG w (some ⟨B,0,none⟩) [u,v,q]:=by
 have hl:B<w.heap.size:=h.lt (by simp[VV.cs])
 intro j x hx
 refine⟨B,0,rfl,hl, ?_⟩
 match j,hx with
 |0,hx=>obtain rfl:u=x:=(by simpa using hx);exact h.mid 0 5
 |1,hx=>obtain rfl:v=x:=(by simpa using hx);exact h.mid 5 5
 |2,hx=>obtain rfl:q=x:=(by simpa using hx);exact h.mid 10 5
 |_+3,hx=>simp at hx
theorem ZbJ {f:PR->Bool} {l:List PR} {i:Nat} {p:PR} (h:Uj f l i=true) (hp:l[i]? =some p) (hf:f p=true):Uj f l (i+1)=true:=by
 unfold Uj
 rw[h,hp]
 simp[hf]
theorem whole11 (A:Option Addr) (n cap:Nat) (M:Value) (B:Option Addr) (pcap:Nat) (ps:List PR) (w:World) (hR:ReadsP9 w B ps) (hz:ps.length<=733007751850) (hT:Lib.Utf8Tabs 1 2 w) (hgd:whV n ps=true):Calls prog 51 #[.agg #[.slice A n cap,M], .slice B ps.length pcap] w fun e w'=>e= .returned (.bool (whV n ps))/\Below w.heap.size w w':=by
 have LL:=Ab (Hq.nil w [])
 have HT:=Ab hT
 have HR:=Ab hR
 have HZ:=Ab hz
 have HGD:Hid (Uj (okW n) ps ps.length=true):=Ab hgd
 unfold whV
 clear hgd hT hR hz
 go_enter func51,ntmps51
 go_wp2_with (first|go_skip|((with_reducible show wpList ..);first|((refine bx 117 ([.slice A n cap,M]) (by rfl) rfl rfl rfl (Nat.succ_pos _) (Aa LL) ?_);intro X1 B1 hE1 L1 hb1;have hB1:=Ab (Nat.le_trans (Aa LL).fr.size (Nat.le_of_eq hE1.symm));replace LL:=Ab L1;clear L1 hb1 hE1;simp only[nn])|(refine rd rfl (Bm 49 80 underlying49 rfl rfl) ?_)))
 go_loopg [9] ps.length (fun gm s9 wr=> ∃i:Nat,s9= .int .i64 (i:Nat)/\i<=ps.length/\ps.length - i<=gm/\Hid (Uj (okW n) ps i=true)/\Hid (Hq w wr [] [(B1, [.slice A n cap,M])]))
 case atStart=>exact⟨0,rfl,by omega,by omega,Ab rfl,LL⟩
 case round=>
  clear LL
  obtain⟨i,rfl,hil,hgm,HD,LL⟩:=hrel
  by_cases hlt:i<ps.length
  ·have dlt:decide ((i:Int)<(ps.length:Int))=true:=decide_eq_true (by omega)
   have hw1:IntKind.i64.wrap ((i:Int)+1)=(i:Int)+1:=by have:=Aa HZ;rw[IntKind.wrap_i64];omega
   obtain⟨p,hp⟩: ∃p,ps[i]? =some p:=⟨_,List.getElem?_eq_getElem hlt⟩
   obtain⟨hok,b,off,hA,hb,hrg⟩:=(Aa HR) i p hp
   subst hA
   have HA2:Hid (∀X,Fr w X []->X.rangeAt b (off+i * 20) p.cs):=Ab (fun X hX=>Jv hrg hb hX)
   have HLT:=Ab hlt
   clear hb hrg hlt hil
   have HW:=Ab (fun w hT=>Xn p.d hok.1 w hT)
   rw[dagg9] at HW
   have hokp:okW n p=true:=by
    cases h9:okW n p with
    |true=>rfl
    |false=>exact absurd ((Aa HGD).symm.trans (Ui hp h9)) (by decide)
   unfold okW at hokp
   simp only[Bool.and_eq_true] at hokp
   have HKP:=Ab hokp.2
   have HWP:=Ab hokp.1
   clear hokp
   have HK:Hid (∀w B,ZcG w (some ⟨B,0,none⟩) [p.d.v,p.d.g,p.d.s]->Lib.Utf8Tabs 1 2 w->Calls prog 98 #[.agg #[.slice A n cap,M], .slice (some ⟨B,0,none⟩) 3 3] w fun e w'=>e= .returned (.bool (Kv p.d.v n && Kv p.d.g n && Kv p.d.s n))/\Below w.heap.size w w'):=Ab (fun w B hr hT=>by
    have h:=known23 A n cap M (some ⟨B,0,none⟩) 3 [p.d.v,p.d.g,p.d.s] w hr (by simp) hT (by simp[(Aa HKP).1.1,(Aa HKP).1.2,(Aa HKP).2])
    simpa [Bool.and_assoc] using h)
   have hokw:okW n p=(wholeV p.d && (Kv p.d.v n && Kv p.d.g n && Kv p.d.s n)):=rfl
   generalize (Kv p.d.v n && Kv p.d.g n && Kv p.d.s n)=kn at *
   generalize wholeV p.d=wh at *
   clear hok
   cases wh
   ·exact absurd (Aa HWP) (by decide)
   ·rw[Bool.true_and] at hokw
    cases kn
    ·exact absurd ((Aa HGD).symm.trans (Ui hp hokw)) (by decide)
    ·have HD2:=Ab (ZbJ (Aa HD) hp hokw)
     clear hp hokw HD
     go_wp2_with (first|go_skip|((with_reducible show wpList ..);first|(refine rd rfl (Ax 49 20 i und26 idx26 rfl rfl rfl (Aa HLT)) ?_)|(refine rd rfl (Bp (vs:=p.cs) 80 20 row46 ZeY rfl rfl (Aa HA2 _ (Aa LL).fr) rfl) ?_)|((refine alG 80 (zeroP.cs) (by rfl) rfl (fun w=>by kernel_rfl) (Nat.succ_pos _) (Aa LL) ?_);intro X3 B3 hE3 L3 hb3;have hB3:=Ab (Nat.le_trans (Aa LL).fr.size (Nat.le_of_eq hE3.symm));replace LL:=Ab L3;clear L3 hb3 hE3;simp only[nn])|((refine st (vs:=p.cs) 1 80 (by rfl) rfl rfl rfl rfl (Ze5 p) (ZeY) (Aa LL) rfl (by simp[Bo,PR.cs,SH.cs,VV.cs,KK.cs,DD.cs]) (Or.inr (Aa hB3)) ?_);intro X4 L4 hf4 hs4;replace LL:=Ab L4;clear L4 hf4 hs4;simp only[nn])|(refine rd rfl (Af (vs:=p.d.cs) 43 18 row44 siz44 rfl rfl ((Aa LL).get 1 rfl) rfl rfl) ?_)))
     refine(Aa HW _ (Aj (Aa HT) (Aa LL).fr.below)).mono ?_
     rintro e X5 ⟨rfl,hb⟩
     replace LL:=Ab ((Aa LL).on hb)
     clear hb
     go_wp2_with (first|go_skip|((with_reducible show wpList ..);first|(refine rd rfl (Af (vs:= [.slice A n cap,M]) 117 2 Pg Mo rfl rfl ((Aa LL).get 0 rfl) rfl rfl) ?_)|(refine rd rfl (Af (vs:=p.d.v.cs) 40 5 Nm Ly rfl rfl ((Aa LL).get 1 rfl) rfl rfl) ?_)|(refine rd rfl (Af (vs:=p.d.g.cs) 40 5 Nm Ly rfl rfl ((Aa LL).get 1 rfl) rfl rfl) ?_)|(refine rd rfl (Af (vs:=p.d.s.cs) 40 5 Nm Ly rfl rfl ((Aa LL).get 1 rfl) rfl rfl) ?_)|((refine build3 p.d.v p.d.g p.d.s (by rfl) rfl rfl rfl rfl (Aa LL) ?_);intro X6 B6 hE6 L6 hb6;replace LL:=Ab L6;clear L6 hb6 hE6;simp only[nn])))
     refine(Aa HK _ _ (reads3 ((Aa LL).get 2 rfl)) (Aj (Aa HT) (Aa LL).fr.below)).mono ?_
     rintro e X7 ⟨rfl,hb⟩
     replace LL:=Ab ((Aa LL).on hb)
     clear hb
     go_wp2_with fail
     replace LL:=Ab (Hq.left (L:= [(B1, [.slice A n cap,M])]) (M:= [_,_]) (Aa LL))
     go_wp2
     go_roundg (ps.length - (i+1))
     case measure=>have:=Aa HLT;omega
     case rel=>exact⟨i+1,by go_num,by have:=Aa HLT;omega,by omega,HD2,LL⟩
  ·obtain rfl:i=ps.length:=by omega
   clear hlt hil
   go_wp2_with (go_skip)
   go_ret
   exact⟨by rw[Aa HD];rfl,(Aa LL).fr.below⟩
def emR:Value->Option (DataW Unit×List MemPlace)
 | .agg ⟨[]⟩=>some (.agg [], [])
 |_=>none
def SetIs (w:World) (b n sz:Nat) (K:KK->Bool):Prop:=
 ∃D:DataW Unit,w.ownsMap prog 37 emR b n D/\Maps.size D=sz/\ ∀k,OkK k->Maps.has D (kl k)=K k
theorem SetIs.made (w:World):SetIs (w.alloc (.map #[] 0)) w.heap.size 0 0 (fun _=>false):=⟨_,World.ownsMap_made w _ _ _,rfl,fun k _=>rfl⟩
theorem SetIs.lt {w:World} {b n sz:Nat} {K:KK->Bool} (h:SetIs w b n sz K):b<w.heap.size:=by
 obtain⟨D,h, -⟩:=h
 exact h.lt
theorem SetIs.block {w w':World} {b n sz:Nat} {K:KK->Bool} (h:SetIs w b n sz K) (he:w'.heap[b]? =w.heap[b]?):SetIs w' b n sz K:=by
 obtain⟨D,⟨es,clock,hb,Ft,hs,hD⟩,h2,h3⟩:=h
 exact⟨D,⟨es,clock,he.trans hb,Ft,hs,hD⟩,h2,h3⟩
theorem SetIs.on {w w':World} {b n sz:Nat} {K:KK->Bool} (h:SetIs w b n sz K) (he:Below w.heap.size w w'):SetIs w' b n sz K:=h.block (he.block b h.lt)
theorem SetIs.far {w w':World} {b n sz g:Nat} {K:KK->Bool} (h:SetIs w b n sz K) (he:Fr w w' [g]) (hg:b≠g):SetIs w' b n sz K:=h.block (he.block b h.lt (by simpa using hg))
theorem SetIs.congr {w:World} {b n sz sz':Nat} {K K':KK->Bool} (h:SetIs w b n sz K) (hs:sz=sz') (hK: ∀k,K k=K' k):SetIs w b n sz' K':=by
 obtain⟨D,h1,h2,h3⟩:=h
 exact⟨D,h1,h2.trans hs,fun k hk=>(h3 k hk).trans (hK k)⟩
theorem SetIs.len {w:World} {b n sz:Nat} {K:KK->Bool} (h:SetIs w b n sz K) (ty:TypeId):(Builtin.len_ #[168] ty #[.map (some b)]).run prog w= .ok (.int .i64 sz) w:=by
 obtain⟨D,h,h2,h3⟩:=h
 rw[h.len underlying168 ty,h2]
theorem SetIs.store {w:World} {b n sz:Nat} {K:KK->Bool} (h:SetIs w b n sz K) {k:KK} (hk:OkK k) (hn:n<maxLen):
  ∃w',(Instr.mapUpdate 168 (.map (some b)) k.agg (.agg #[])).run prog w= .ok () w'/\SetIs w' b (n+1) (if K k then sz else sz+1) (fun q=>decide (k=q)||K q)/\w.mapTurned w' b:=by
 obtain⟨D,h,h2,h3⟩:=h
 obtain⟨w',hrun,ho,ht⟩:=h.store law41 underlying168 hn (keyOfK9 hk) (show emR (.agg #[])=some (.agg [], []) from rfl)
 have ti:=h.tidy law41
 refine⟨w',hrun,⟨_,ho, ?_,fun q hq=> ?_⟩,ht⟩
 ·rw[size_put ti,h3 k hk,h2]
 ·by_cases e:k=q
  ·subst e
   rw[has_put_same ti.isMap (Zec hk)]
   simp
  ·have ne:kl q≠kl k:=fun e'=>e (Zed hq hk e').symm
   rw[has_put_other ne,h3 q hq]
   show K q=(decide (k=q)||K q)
   rw[decide_eq_false e,Bool.false_or]
section
variable {ops : Array Oper} {rest : List Oper} {Q : Exit → Act → World → Prop} {w w0 : World} {a : Act} {o : Oper} {E : List Nat} {L : List (Nat × List Value)}
theorem mmK {x:Operand} {n:Int} (hw:Region.wanted o (yielded ops a.tmps)=true) (ho:o.op= .makeMap 168 (some x)) (hx:a.eval x= .int .i64 n) (hL:Hq w0 w E L)
  (h: ∀X B,B=w.heap.size->Hq w0 X E L->SetIs X B 0 0 (fun _=>false)->Below w.heap.size w X->wpList prog ops Q rest (a.put o.dst (.map (some B))) X):wpList prog ops Q (o::rest) a w:=by
 refine BigFrame.wpList_want hw fun K hK=> ?_
 have bl:Below w.heap.size w (w.alloc (Obj.map #[] 0)):=(Below.refl _ _).alloc (Nat.le_refl _) _
 have hP:=hK _ _ (h _ _ rfl (hL.on bl) (SetIs.made w) bl)
 have e:(Instr.makeMap 168 (some (.int .i64 n))).run prog w= .ok (.map (some w.heap.size)) (w.alloc (.map #[] 0)):=by
  simp[Instr.makeMap,run_underlying underlying168,asInt,asIntOf,Result.andThen]
 unfold Oper.wp execOp
 simp only[ho,Option.map_some,hx]
 simp[e]
 exact hP
theorem updK {m x y:Operand} {b n sz:Nat} {K:KK->Bool} {k:KK} (hw:Region.wanted o (yielded ops a.tmps)=true) (ho:o.op= .mapUpdate 168 m x y) (hm:a.eval m= .map (some b)) (hx:a.eval x=k.agg) (hy:a.eval y= .agg #[]) (h:SetIs w b n sz K) (hk:OkK k) (hn:n<maxLen)
  (hh: ∀X,SetIs X b (n+1) (if K k then sz else sz+1) (fun q=>decide (k=q)||K q)->Fr w X [b]->wpList prog ops Q rest (a.put o.dst undef) X):wpList prog ops Q (o::rest) a w:=by
 obtain⟨X,h1,h2,h3⟩:=h.store hk hn
 refine BigFrame.wpList_want hw fun K hK=> ?_
 have hP:=hK _ _ (hh X h2 (Fr.grown h3.grown))
 unfold Oper.wp
 have e:(execOp a.eval o).run prog w= .ok .skip X:=by
  unfold execOp
  simp only[ho,hm,hx,hy]
  simp[h1]
 rw[e]
 exact hP
theorem ex_lenM {m:Operand} {b n sz:Nat} {K:KK->Bool} (ho:o.op= .call {callee:= .builtin .len,args:= #[m],argTypes:= #[168]}) (hm:a.eval m= .map (some b)) (h:SetIs w b n sz K):(execOp a.eval o).run prog w= .ok (.value (.int .i64 (sz:Nat))) w:=by
 have e:=h.len o.type
 simp[execOp,ho,resolve,invoke,builtin,hm,e,Result.andThen]
end
theorem take_any (l:List PR) (i:Nat) (p:PR) (hp:l[i]? =some p) (k:KK):(l.take (i+1)).any (fun q=>decide (q.k=k))=(decide (p.k=k)||(l.take i).any (fun q=>decide (q.k=k))):=by
 obtain⟨hi,rfl⟩:=List.getElem?_eq_some_iff.1 hp
 rw[List.take_succ_eq_append_getElem hi,List.any_append]
 simp[Bool.or_comm]
theorem Zey (B:Option Addr) (pcap:Nat) (ps:List PR) (w:World) (hR:ReadsP9 w B ps) (hz:ps.length<=733007751850) (hT:Lib.Utf8Tabs 1 2 w) (hgd:Vr ps=true):Calls prog 50 #[.slice B ps.length pcap] w fun e w'=>e= .returned (.bool (Vr ps))/\Below w.heap.size w w':=by
 have LL:=Ab (Hq.nil w [])
 have HGD:=Ab hgd
 clear hgd
 have HT:=Ab hT
 have HR:=Ab hR
 have HZ:=Ab hz
 clear hT hR hz
 go_enter func50,ntmps50
 go_wp2_with (first|go_skip|((with_reducible show wpList ..);first|(refine rd rfl (Bm 49 80 underlying49 rfl rfl) ?_)|((refine mmK (by rfl) rfl rfl (Aa LL) ?_);intro X1 M1 hE1 L1 hM1 hb1;have HM:=Ab (And.intro hM1 (Nat.le_trans (Aa LL).fr.size (Nat.le_of_eq hE1.symm)));replace LL:=Ab L1;clear L1 hM1 hb1 hE1;simp only[nn])))
 go_loopg [11] ps.length (fun gm s11 wr=> ∃i:Nat,s11= .int .i64 (i:Nat)/\i<=ps.length/\ps.length - i<=gm/\Hid (Uj (fun p=>goodK p.k) ps i=true)/\Hid (SetIs wr M1 i (Xo ps i) (fun k=>(ps.take i).any (fun q=>decide (q.k=k)))/\w.heap.size<=M1)/\Hid (Hq w wr [] []))
 case atStart=>exact⟨0,rfl,by omega,by omega,Ab rfl,Ab ⟨(Aa HM).1.congr rfl (fun k=>by simp),(Aa HM).2⟩,LL⟩
 case round=>
  clear LL HM
  obtain⟨i,rfl,hil,hgm,HD,HM,LL⟩:=hrel
  by_cases hlt:i<ps.length
  ·have dlt:decide ((i:Int)<(ps.length:Int))=true:=decide_eq_true (by omega)
   have hw1:IntKind.i64.wrap ((i:Int)+1)=(i:Int)+1:=by have:=Aa HZ;rw[IntKind.wrap_i64];omega
   obtain⟨p,hp⟩: ∃p,ps[i]? =some p:=⟨_,List.getElem?_eq_getElem hlt⟩
   obtain⟨hok,b,off,hA,hb,hrg⟩:=(Aa HR) i p hp
   subst hA
   have HA2:Hid (∀X,Fr w X []->X.rangeAt b (off+i * 20) p.cs):=Ab (fun X hX=>Jv hrg hb hX)
   have HLT:=Ab hlt
   have HMX:Hid (i<maxLen):=Ab (by have:=Aa HZ;unfold maxLen;omega)
   have HOK:=Ab hok.2
   clear hb hrg hlt hil hok
   have HC:=Ab (fun w hT=>check129 p.k.s p.k.n w hT)
   rw[ZcE,kagg9] at HC
   have hgk:goodK p.k=(Mn p.k.s p.k.n).good:=rfl
   generalize (Mn p.k.s p.k.n).good=g at *
   cases g
   ·have hfa:Vr ps=false:=by unfold Vr;rw[Ui hp hgk];rfl
    exact absurd ((Aa HGD).symm.trans hfa) (by decide)
   ·have HD2:=Ab (ZbJ (Aa HD) hp hgk)
    have HTK:=Ab (take_any ps i p hp)
    have hea:Oo ps i=(ps.take i).any (fun q=>decide (q.k=p.k)):=by unfold Oo;rw[hp]
    have HSZ:Hid (Xo ps (i+1)=if (ps.take i).any (fun q=>decide (q.k=p.k)) then Xo ps i else Xo ps i+1):=Ab (by rw[←hea];rfl)
    clear hp hgk HD hea
    go_wp2_with (first|go_skip|((with_reducible show wpList ..);first|(refine rd rfl (Ax 49 20 i und26 idx26 rfl rfl rfl (Aa HLT)) ?_)|(refine rd rfl (Bp (vs:=p.cs) 80 20 row46 ZeY rfl rfl (Aa HA2 _ (Aa LL).fr) rfl) ?_)|((refine alG 80 (zeroP.cs) (by rfl) rfl (fun w=>by kernel_rfl) (Nat.succ_pos _) (Aa LL) ?_);intro X3 B3 hE3 L3 hb3;have hB3:=Ab (Nat.le_trans (Aa LL).fr.size (Nat.le_of_eq hE3.symm));have hNE:Hid (M1≠B3):=Ab (Nat.ne_of_lt (Nat.lt_of_lt_of_le (Aa HM).1.lt (Nat.le_of_eq hE3.symm)));replace HM:=Ab (And.intro ((Aa HM).1.on hb3) (Aa HM).2);replace LL:=Ab L3;clear L3 hb3 hE3;simp only[nn])|((refine st (vs:=p.cs) 0 80 (by rfl) rfl rfl rfl rfl (Ze5 p) ZeY (Aa LL) rfl (by simp[Bo,PR.cs,KK.cs,DD.cs,zeroP]) (Or.inr (Aa hB3)) ?_);intro X4 L4 hf4 hs4;replace HM:=Ab (And.intro ((Aa HM).1.far hf4 (Aa hNE)) (Aa HM).2);replace LL:=Ab L4;clear L4 hf4 hs4;simp only[nn])|(refine rd rfl (Af (vs:=p.k.cs) 37 2 row41 siz41 rfl rfl ((Aa LL).get 0 rfl) rfl rfl) ?_)))
    refine(Aa HC _ (Aj (Aa HT) (Aa LL).fr.below)).mono ?_
    rintro e X5 ⟨rfl,hb⟩
    replace HM:=Ab (And.intro ((Aa HM).1.on hb) (Aa HM).2)
    replace LL:=Ab ((Aa LL).on hb)
    clear hb
    unfold Vq
    go_wp2_with (first|go_skip|((with_reducible show wpList ..);first|((refine updK (k:=p.k) (by rfl) rfl rfl rfl rfl (Aa HM).1 (Aa HOK) (Aa HMX) ?_);intro X6 hm6 hf6;have HM6:=Ab (And.intro hm6 (And.intro (Aa HM).2 ((Aa LL).fr.trans hf6 (fun b hb=> .inr (by obtain rfl:b=M1:=(by simpa using hb);exact(Aa HM).2)))));clear hm6 hf6 HM LL;simp only[nn])|(refine rd rfl (Af (vs:=p.k.cs) 37 2 row41 siz41 rfl rfl ((Aa LL).get 0 rfl) rfl rfl) ?_)))
    go_roundg (ps.length - (i+1))
    case measure=>have:=Aa HLT;omega
    case rel=>exact⟨i+1,by go_num,by have:=Aa HLT;omega,by omega,HD2,Ab ⟨(Aa HM6).1.congr (Aa HSZ).symm (fun k=>(Aa HTK k).symm),(Aa HM6).2.1⟩,Ab ⟨(Aa HM6).2.2,(fun q hq=>by cases hq),by simp⟩⟩
  ·obtain rfl:i=ps.length:=by omega
   have hds:Vr ps=decide (Xo ps ps.length=ps.length):=by unfold Vr;rw[Aa HD,Bool.true_and]
   clear hlt hil HD
   generalize Xo ps ps.length=sz at *
   by_cases he:sz=ps.length
   ·have HV:Hid (Vr ps=true):=Ab (by rw[hds];exact decide_eq_true he)
    have he2:((sz:Int)==(ps.length:Int))=true:=by simp[he]
    have he3:(sz:Int)=(ps.length:Int):=by omega
    clear hds he
    go_wp2_with (first|go_skip|((with_reducible show wpList ..);first|(refine rd rfl (Bm 49 80 underlying49 rfl rfl) ?_)|(refine rd rfl (ex_lenM rfl rfl (Aa HM).1) ?_)|(refine rd rfl (Gb rfl rfl rfl he3) ?_)))
    go_ret
    exact⟨by rw[Aa HV];rfl,(Aa LL).fr.below⟩
   ·exact absurd ((Aa HGD).symm.trans (hds.trans (decide_eq_false he))) (by decide)
theorem Zf9 (n:Nat):madeCells #[Value.int .i64 0] n=(mc (List.replicate n 0)).toArray:=by
 apply Array.toList_inj.1
 unfold madeCells mc
 apply List.ext_getElem
 ·simp
 ·intro i h1 h2
  simp
  rw[Nat.mod_one]
  rfl
theorem inf3:(prog.info? 3).map (fun i=>(i.zero,i.size,i.bytes))=some (some (.int .i64 0),1,8):=by kernel_rfl
theorem mkF {ops:Array Oper} {rest:List Oper} {Q:Exit->Act->World->Prop} {w w0:World} {a:Act} {o:Oper} {x y:Operand} {E:List Nat} {L:List (Nat×List Value)} (n:Nat) (hw:Region.wanted o (yielded ops a.tmps)=true) (ho:o.op= .makeSlice 54 x y) (hx:a.eval x= .int .i64 (n:Nat)) (hy:a.eval y= .int .i64 (n:Nat)) (hn:n<=65536) (hL:Hq w0 w E L)
  (h: ∀X B,B=w.heap.size->Hq w0 X E L->Holds X B (mc (List.replicate n 0))->Below w.heap.size w X->B<X.heap.size->wpList prog ops Q rest (a.put o.dst (.slice (some ⟨B,0,none⟩) n n)) X):wpList prog ops Q (o::rest) a w:=by
 refine BigFrame.wpList_want hw fun K hK=> ?_
 obtain⟨i0,hi,hz0,hz1,hz2⟩:=info_parts inf3
 have hr:=run_make (P:=prog) w 54 3 i0 _ underlying54 hi hz0 .i64 .i64 n n (by omega) (Int.le_refl _) (by rw[hz2];omega) (by omega)
 simp only[Int.toNat_natCast,hz1,Nat.mul_one] at hr
 have bl:Below w.heap.size w (w.alloc (.cells (madeCells (Value.cells (.int .i64 0)) n) 3)):=(Below.refl _ _).alloc (Nat.le_refl _) _
 have hP:=hK _ _ (h _ _ rfl (hL.on bl) (by
  have e:madeCells (Value.cells (.int .i64 0)) n=(mc (List.replicate n 0)).toArray:=Zf9 n
  rw[e]
  exact Holds.new w _ 3) bl (by simp))
 unfold Oper.wp execOp
 simp only[ho,hx,hy]
 simp[hr]
 exact hP
theorem Zeq {o:Oper} {a:Act} {w:World} {x y:Operand} {A B:Option Addr} {n c m d:Nat} (ho:o.op= .build 117 #[(0,x),(1,y)]) (hx:a.eval x= .slice A n c) (hy:a.eval y= .slice B m d):(execOp a.eval o).run prog w= .ok (.value (.agg #[.slice A n c, .slice B m d])) w:=by
 have e:(Instr.build 117 #[(0, .slice A n c),(1, .slice B m d)]).run prog w= .ok (.agg #[.slice A n c, .slice B m d]) w:=by kernel_rfl
 unfold execOp
 simp only[ho]
 simp[hx,hy,e]
def NPost (w:World) (A:Option Addr) (n cap:Nat) (e:Ending) (w':World):Prop:= ∃g:Nat,e= .returned (.agg #[.slice A n cap, .slice (some ⟨g,0,none⟩) n n])/\w.heap.size<=g/\Below w.heap.size w w'/\Holds w' g (mc (List.replicate n 0))
theorem Holds.far {X Y:World} {b g:Nat} {cs:List Value} (h:Holds X b cs) (hb:b<X.heap.size) (hf:Fr X Y [g]) (hn:b≠g):Holds Y b cs:=h.block (hf.block b hb (by simpa using hn))
theorem Zav (A:Option Addr) (n cap:Nat) (w:World) (hn:n<=65536):Calls prog 47 #[.slice A n cap] w (NPost w A n cap):=by
 have LL:=Ab (Hq.nil w [])
 have HN:=Ab hn
 clear hn
 go_enter func47,ntmps47
 go_wp2_with (first|go_skip|((with_reducible show wpList ..);first|((refine alG 117 ([.slice none 0 0, .slice none 0 0]) (by rfl) rfl (fun w=>by kernel_rfl) (Nat.succ_pos _) (Aa LL) ?_);intro X1 B1 hE1 L1 hb1;have hB1:=Ab (Nat.le_trans (Aa LL).fr.size (Nat.le_of_eq hE1.symm));replace LL:=Ab L1;clear L1 hb1 hE1;simp only[nn])|(refine rd rfl (Bm 61 85 underlying61 rfl rfl) ?_)|((refine mkF n (by rfl) rfl rfl rfl (Aa HN) (Aa LL) ?_);intro X2 B2 hE2 L2 hh2 hb2 hs2;have HH:Hid (Holds X2 B2 (mc (List.replicate n 0))/\B2<X2.heap.size/\B2≠B1/\w.heap.size<=B2):=Ab ⟨hh2,hs2,Ne.symm (Nat.ne_of_lt (Nat.lt_of_lt_of_le ((Aa LL).lt _ (List.mem_singleton.2 rfl)) (Nat.le_of_eq hE2.symm))),Nat.le_trans (Aa LL).fr.size (Nat.le_of_eq hE2.symm)⟩;replace LL:=Ab L2;clear L2 hh2 hb2 hE2 hs2;simp only[nn])|(refine rd rfl (Zeq rfl rfl rfl) ?_)|((refine st (vs:= [.slice A n cap, .slice (some ⟨B2,0,none⟩) n n]) 0 117 (by rfl) rfl rfl rfl rfl (by simp[Value.oneCell']) Mo (Aa LL) rfl (by simp) (Or.inr (Aa hB1)) ?_);intro X4 L4 hf4 hs4;replace HH:Hid (Holds X4 B2 (mc (List.replicate n 0))/\w.heap.size<=B2):=Ab ⟨(Aa HH).1.far (Aa HH).2.1 hf4 (Aa HH).2.2.1,(Aa HH).2.2.2⟩;replace LL:=Ab L4;clear L4 hf4 hs4;simp only[nn])))
 exact Kz Pg Mo rfl rfl rfl ((Aa LL).get 0 rfl) rfl ⟨B2,rfl,(Aa HH).2,(Aa LL).fr.below,(Aa HH).1⟩
