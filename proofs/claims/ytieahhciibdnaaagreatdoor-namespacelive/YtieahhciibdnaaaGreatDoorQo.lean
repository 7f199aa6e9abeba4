import Derived.Test.YtieahhciibdnaaaGreatDoorQn
set_option linter.all false
namespace Go.Proofs.YtieahhciibdnaaaGreatDoor
set_option maxRecDepth 100000
set_option maxHeartbeats 0
section
open Go Go.Proofs Go.RowKit
def kd (k:KK):Int:=Zc k.s k.n
def kn (k:KK):Nat:=ZaA k.s k.n
def ixs (l:List KK):List Nat:=(l.filter (fun k=>kd k==0)).map kn
def Kd (l:List KK):List KK:=l.filter (fun k=>kd k==1)
def Kc (l:List KK):List KK:=l.filter (fun k=>kd k==2)
def Jg (d:List Nat):List KK:=d.map (fun u=>⟨Qu u,0⟩)
theorem ZdB (l:List KK) (j:Nat) (h:j<l.length):l.take (j+1)=l.take j++ [l[j]]:=List.take_succ_eq_append_getElem h
theorem Zc5 (l:List KK):(ixs l).length<=l.length:=by unfold ixs;rw[List.length_map];exact List.length_filter_le _ _
theorem Za2 (l:List KK):(Kd l).length<=l.length:=List.length_filter_le _ _
theorem Za1 (l:List KK):(Kc l).length<=l.length:=List.length_filter_le _ _
theorem step_0 (l:List KK) (k:KK) (h:kd k=0):ixs (l++ [k])=ixs l++ [kn k]/\Kd (l++ [k])=Kd l/\Kc (l++ [k])=Kc l:=by
 unfold ixs Kd Kc
 simp[List.filter_append,h]
theorem step_1 (l:List KK) (k:KK) (h:kd k=1):ixs (l++ [k])=ixs l/\Kd (l++ [k])=Kd l++ [k]/\Kc (l++ [k])=Kc l:=by
 unfold ixs Kd Kc
 simp[List.filter_append,h]
theorem step_2 (l:List KK) (k:KK) (h:kd k=2):ixs (l++ [k])=ixs l/\Kd (l++ [k])=Kd l/\Kc (l++ [k])=Kc l++ [k]:=by
 unfold ixs Kd Kc
 simp[List.filter_append,h]
theorem Lm {w:World} {base:Nat} {v:Value} {l:List KK} (h:OwnK w base v l): ∀c,v= .slice none 0 c->c=0:=by
 intro c hc
 rcases h.form with ⟨rfl,_⟩|⟨g,c',rfl,_⟩
 ·cases hc;rfl
 ·cases hc
def G3 (w W:World) (v3 v4 v5:Value) (l:List KK):Prop:=R3 w W v3 v4 v5 (ixs l) (Kd l) (Kc l)
def mg (d:List Nat):List Nat:=d.mergeSort (fun x y=> !ltN y x)
theorem Zcq (d:List Nat):(mg d).length=d.length:=List.length_mergeSort d
theorem Za4 (v:Value) (d:List Nat) (base:Nat) (w:World) (h:OwnU w base v d) (hlen:d.length<=1500000):
  Calls Tryz.prog 190 #[v] w fun e w'=>e= .returned (.tuple #[])/\w.grownBy w' v.ownBlock/\(∀g,v.ownBlock=some g-> ∃c,v= .slice (some ⟨g,0,none⟩) d.length c/\LiesU w' g (mg d).toArray)/\(v.ownBlock=none->v= .slice none 0 0/\d= []):=by
 rcases h.2 with ⟨rfl,h0⟩|⟨g,c,cur,rfl,h1,h2,h3,h4,h5,h6⟩
 ·have hd:d= []:=List.length_eq_zero_iff.1 h0
  exact(Zcc w).mono (fun e w' hh=>⟨hh.1,hh.2,(fun g hg=>by cases hg),fun _=>⟨rfl,hd⟩⟩)
 ·have hL:LiesU w g d.toArray:=by
   refine⟨(cur.toList.drop d.length).toArray, ?_⟩
   rw[h2]
   congr 2
   apply Array.toList_inj.1
   simp only[Array.toList_append,Array.toList_map]
   rw[←h6,Nat.mul_one]
   exact(List.take_append_drop _ _).symm
  have hs:=sort31 g c d.toArray w hL (by simpa using hlen)
  rw[List.size_toArray] at hs
  refine hs.mono ?_
  rintro e w' ⟨rfl,d',hd',hl',hg'⟩
  refine⟨rfl,hg',fun g' hgg=> ?_,fun hn=>by cases hn⟩
  have eg:g=g':=by simpa [Value.ownBlock] using hgg
  subst eg
  refine⟨c,rfl, ?_⟩
  have:d'=(mg d).toArray:=Array.toList_inj.1 (by rw[hd'];rfl)
  rw[←this]
  exact hl'
theorem Zc4 {ops:Array Oper} {rest:List Oper} {o:Oper} {a:Act} {w:World} {Q:Exit->Act->World->Prop} {x:Operand} {c base:Nat} (hw:Region.wanted o (yielded ops a.tmps)=true) (ho:o.op= .makeSlice 62 (.const (.int .i64 0)) x) (hx:a.eval x= .int .i64 (c:Nat)) (hc:c<=1500000) (hb:base<=w.heap.size)
  (h: ∀X B,w.heap.size<=B->OwnK X base (.slice (some ⟨B,0,none⟩) 0 c) []->w.grownBy X none->wpList Tryz.prog ops Q rest (a.put o.dst (.slice (some ⟨B,0,none⟩) 0 c)) X):wpList Tryz.prog ops Q (o::rest) a w:=by
 refine BigFrame.wpList_want hw fun K hK=> ?_
 obtain⟨i0,hi,hz0,hz1,hz2⟩:=info_parts Jj
 obtain⟨w',hrun,h1,h2⟩:=run_makeSlice_owned w base 62 45 i0 _ 2 Tryz.underlying62 hi hz0 hz1 .i64 .i64 c (by omega) (by rw[hz2];omega) (by unfold maxLen;omega) hb
 have hP:=hK _ _ (h w' _ (Nat.le_refl _) h1 h2)
 unfold Oper.wp execOp
 simp only[ho,hx]
 simp[Act.eval,hrun]
 exact hP
structure R4 (w W:World) (v4 v5 v10:Value) (ks ys out:List KK) (gb:Option Nat) (ob:Option Obj):Prop where
 below:Below w.heap.size w W
 o4:OwnK W w.heap.size v4 ks
 o5:OwnK W w.heap.size v5 ys
 o10:OwnK W w.heap.size v10 out
 a45:Apart v4 v5
 a104:Apart v10 v4
 a105:Apart v10 v5
 idx: ∀g,gb=some g->g<W.heap.size/\W.heap[g]? =ob/\v10.ownBlock≠some g
section
variable {w W W' : World} {v4 v5 v10 v' : Value} {ks ys out : List KK} {gb : Option Nat} {ob : Option Obj}
theorem R4.on (h:R4 w W v4 v5 v10 ks ys out gb ob) (hb:Below W.heap.size W W'):R4 w W' v4 v5 v10 ks ys out gb ob:=
 ⟨h.below.trans (hb.mono h.below.size),h.o4.on hb,h.o5.on hb,h.o10.on hb,h.a45,h.a104,h.a105,fun g hg=>⟨Nat.lt_of_lt_of_le (h.idx g hg).1 hb.size,(hb.block g (h.idx g hg).1).trans (h.idx g hg).2.1,(h.idx g hg).2.2⟩⟩
theorem R4.put {n:List KK} (h:R4 w W v4 v5 v10 ks ys out gb ob) (ho:OwnK W' w.heap.size v' (out++n)) (hg:W.grownBy W' v10.ownBlock) (hf:Lq W v10 v'):R4 w W' v4 v5 v' ks ys (out++n) gb ob:=
 ⟨h.below.grown hg h.below.size (fun k hk=>(h.o10.own k hk).1),h.o4.block (fun g hg'=>hg.block g (h.o4.own g hg').2 (fun e=>h.a104 g e.symm hg')),h.o5.block (fun g hg'=>hg.block g (h.o5.own g hg').2 (fun e=>h.a105 g e.symm hg')),ho,
  h.a45,h.a104.fresh hf (fun g hg=>(h.o4.own g hg).2),h.a105.fresh hf (fun g hg=>(h.o5.own g hg).2),fun g hgb=>⟨Nat.lt_of_lt_of_le (h.idx g hgb).1 hg.size,(hg.block g (h.idx g hgb).1 (fun e=>(h.idx g hgb).2.2 e.symm)).trans (h.idx g hgb).2.1,fun he=>by
   rcases hf with e|e
   ·exact(h.idx g hgb).2.2 (e▸he)
   ·rw[e] at he
    have h2:W.heap.size=g:=by simpa using he
    have:=(h.idx g hgb).1
    omega⟩⟩
end
theorem R3.sorted {w W W' X:World} {v3 v4 v5:Value} {d:List Nat} {ks ys:List KK} {B c:Nat} (h:R3 w W v3 v4 v5 d ks ys) (hg:W.grownBy W' v3.ownBlock) (hB:W'.heap.size<=B) (ho:OwnK X w.heap.size (.slice (some ⟨B,0,none⟩) 0 c) []) (hX:W'.grownBy X none):
  R4 w X v4 v5 (.slice (some ⟨B,0,none⟩) 0 c) ks ys [] v3.ownBlock (v3.ownBlock.bind fun g=>W'.heap[g]?):=by
 have hs:=hg.size
 refine⟨(h.below.grown hg h.below.size (fun k hk=>(h.o3.own k hk).1)).grown hX (Nat.le_trans h.below.size hs) (fun k hk=>by cases hk), ?_, ?_,ho,h.a45, ?_, ?_, ?_⟩
 ·refine h.o4.block (fun g hg'=> ?_)
  have hl:=(h.o4.own g hg').2
  rw[hX.block g (by omega) (by simp),hg.block g hl (fun e=>h.a34 g e.symm hg')]
 ·refine h.o5.block (fun g hg'=> ?_)
  have hl:=(h.o5.own g hg').2
  rw[hX.block g (by omega) (by simp),hg.block g hl (fun e=>h.a35 g e.symm hg')]
 ·intro g h1 h2
  have e:B=g:=by simpa [Value.ownBlock] using h1
  have:=(h.o4.own g h2).2
  omega
 ·intro g h1 h2
  have e:B=g:=by simpa [Value.ownBlock] using h1
  have:=(h.o5.own g h2).2
  omega
 ·intro g hgb
  have hl:=(h.o3.own g hgb).2
  refine⟨Nat.lt_of_lt_of_le (Nat.lt_of_lt_of_le hl hs) hX.size, ?_, ?_⟩
  ·rw[hX.block g (by omega) (by simp),hgb]
   rfl
  ·intro he
   have e:B=g:=by simpa [Value.ownBlock] using he
   omega
theorem mg_nil:mg []= []:=by unfold mg;simp
theorem mg_le (l:List KK): ∀u∈mg (ixs l),u<=4294967295:=by
 intro u hu
 unfold mg at hu
 rw[List.mem_mergeSort] at hu
 unfold ixs at hu
 obtain⟨k,_,rfl⟩:=List.mem_map.1 hu
 have:=kn_le k.s k.n
 unfold kn
 omega
theorem LiesU.blk {w w':World} {g:Nat} {d:Array Nat} {ob:Option Obj} (h:LiesU w g d) (he:w'.heap[g]? =ob) (h2:ob=w.heap[g]?):LiesU w' g d:=by
 obtain⟨r,hr⟩:=h
 exact⟨r,by rw[he,h2,hr]⟩
def TabL (l:List KK) (w:World):Prop:=ixs l= []∨TabP w
theorem TabL.on {l:List KK} {w w':World} (h:TabL l w) (hb:Below w.heap.size w w'):TabL l w':=h.imp id (fun g=>g.on hb)
theorem TabL.get {l:List KK} {dd:List Nat} {w:World} {j:Nat} (h:TabL l w) (hd:dd=ixs l) (hj:j<(mg dd).length):TabP w:=h.resolve_left (fun e=>by
 rw[hd,e,Zcq] at hj
 simp at hj)
theorem Zaw (b off cap:Nat) (l:List KK) (hz: ∀k∈l,k.s.size<=1048576) (w:World) (htab:TabL l w) (hb:b<w.heap.size) (hr:RowsK w b off l) (hlen:l.length<=1500000):Calls Tryz.prog 185 #[.slice (some ⟨b,off,none⟩) l.length cap] w fun e w'=> ∃v,e= .returned v/\OwnK w' w.heap.size v (Jg (mg (ixs l))++Kd l++Kc l)/\Below w.heap.size w w':=by
 have HT:=Ab htab
 clear htab
 have HRD:=Ab hr
 have HFD:=Ab hz
 clear hr hz
 go_enter Tryz.func185,Tryz.ntmps185
 go_wp2_with fail
 go_loopg [3,4,5,15] l.length (fun gm s3 s4 s5 s15 wr=> ∃j:Nat,s15= .int .i64 j/\j<=l.length/\l.length - j<=gm/\Hid (G3 w wr s3 s4 s5 (l.take j)))
 case atStart=>exact⟨0,rfl,by omega,by omega,Ab (R3.nil w)⟩
 case round=>
  obtain⟨j,rfl,hj,hg,H3⟩:=hrel
  by_cases hlt:j<l.length
  ·have hjz:(j:Int)<l.length:=by omega
   obtain⟨d,hd⟩: ∃d,d=l[j]:=⟨_,rfl⟩
   have hst:=ZdB l j hlt
   rw[←hd] at hst
   have hsz:d.s.size<=1048576:=by rw[hd];exact Aa HFD _ (List.getElem_mem hlt)
   have HR:Hid (wr.rangeAt b (off+j * 2) d.cs):=Ab (by rw[hd];exact(Aa HRD).keep ((Aa H3).below.block b hb) j hlt)
   have HN3:Hid ((ixs (l.take j)).length<=6000000):=Ab (by have:=Zc5 (l.take j);rw[List.length_take] at this;omega)
   have HN4:Hid ((Kd (l.take j)).length+ [d].length<=6000000):=Ab (by have:=Za2 (l.take j);rw[List.length_take] at this;simp;omega)
   have HN5:Hid ((Kc (l.take j)).length+ [d].length<=6000000):=Ab (by have:=Za1 (l.take j);rw[List.length_take] at this;simp;omega)
   have HK:=Ab (kindOf22 d.s d.n (by omega))
   have HAn:=Ab (anew30 d.s d.n hsz)
   rw[Zdo] at HK HAn
   have ekd:Zc d.s d.n=kd d:=rfl
   have ekn:ZaA d.s d.n=kn d:=rfl
   rw[ekd,ekn] at HK
   have hkr:=kd_range d.s d.n
   rw[ekd] at hkr
   clear hd ekd ekn
   have LL:=Ab (Kq.nil wr)
   replace H3:Hid (R3 w wr u3 u4 u5 (ixs (l.take j)) (Kd (l.take j)) (Kc (l.take j))):=H3
   by_cases h0:kd d=0
   ·rw[h0] at HK
    obtain⟨q1,q2,q3⟩:=step_0 (l.take j) d h0
    rw[←hst] at q1 q2 q3
    have HQ:=Ab (And.intro q1 (And.intro q2 q3))
    clear q1 q2 q3 hst h0 hkr
    go_wp2_with (first|go_skip|((with_reducible apply Xh (j:=j));(case ho|hw|hx|hix=>rfl);(case hj=>exact hlt);simp only[nn])|((with_reducible apply Zbw (d:=d));(case ho|hw|hx=>rfl);(case hc=>exact Aa HR);simp only[nn])|((with_reducible apply Ld);(case ho|hw=>rfl);(case hL=>exact Aa LL);(intro X LX hbX;simp only[nn];simp only[List.cons_append,List.nil_append] at LX;replace LL:=Ab LX;clear LX hbX))|((with_reducible apply La (u:=d) (l:= []) (d:=Gv));(case ho|hw=>rfl);(case hL=>exact Aa LL);(case hx|hy|hm=>rfl);(case hne=>exact fun q hq=>by cases hq);(intro X LX hgX hsX;simp only[nn];simp only[List.cons_append,List.nil_append] at LX;replace LL:=Ab LX;clear LX hgX hsX))|((with_reducible apply Na);(case ho|hw|hx=>rfl);(case hc=>first|exact(Aa LL).get 0 rfl);simp only[nn]))
    refine(Aa HK _).mono ?_
    rintro _ w1 ⟨rfl,hb1⟩
    replace LL:=Ab ((Aa LL).on hb1)
    replace H3:=Ab ((Aa H3).on (Aa LL).below)
    clear hb1
    go_wp2_with (first|go_skip|((with_reducible apply kbuildU (n:=kn d));(case ho|hw|hx=>rfl);(intro X hc hs hb;simp only[nn];have HC:=Ab hc;replace LL:=Ab ((Aa LL).on hb);replace H3:=Ab ((Aa H3).on hb);clear hc hs hb))|((with_reducible apply Zeo (n:=kn d));(case hgd|ho|hs|hx=>rfl);(case hown=>exact(Aa H3).o3);(case hB=>exact Aa HC);(case hn=>exact Aa HN3);(case hbase=>exact(Aa H3).below.size);(intro v9 X9 k1 k2 k3;simp only[nn];have H4:=Ab ((Aa H3).put3 k1 k2 k3);clear k1 k2 k3)))
    go_roundg (l.length - (j+1))
    case measure=>omega
    case rel=>exact⟨j+1,by go_num,by omega,Nat.le_refl _,Ab (by unfold G3;rw[(Aa HQ).1,(Aa HQ).2.1,(Aa HQ).2.2];exact Aa H4)⟩
   ·by_cases h1:kd d=1
    ·clear h0
     rw[h1] at HK
     obtain⟨q1,q2,q3⟩:=step_1 (l.take j) d h1
     rw[←hst] at q1 q2 q3
     have HQ:=Ab (And.intro q1 (And.intro q2 q3))
     clear q1 q2 q3 hst h1 hkr
     go_wp2_with (first|go_skip|((with_reducible apply Xh (j:=j));(case ho|hw|hx|hix=>rfl);(case hj=>exact hlt);simp only[nn])|((with_reducible apply Zbw (d:=d));(case ho|hw|hx=>rfl);(case hc=>exact Aa HR);simp only[nn])|((with_reducible apply Ld);(case ho|hw=>rfl);(case hL=>exact Aa LL);(intro X LX hbX;simp only[nn];simp only[List.cons_append,List.nil_append] at LX;replace LL:=Ab LX;clear LX hbX))|((with_reducible apply La (u:=d) (l:= []) (d:=Gv));(case ho|hw=>rfl);(case hL=>exact Aa LL);(case hx|hy|hm=>rfl);(case hne=>exact fun q hq=>by cases hq);(intro X LX hgX hsX;simp only[nn];simp only[List.cons_append,List.nil_append] at LX;replace LL:=Ab LX;clear LX hgX hsX))|((with_reducible apply Na);(case ho|hw|hx=>rfl);(case hc=>first|exact(Aa LL).get 0 rfl);simp only[nn]))
     refine(Aa HK _).mono ?_
     rintro _ w1 ⟨rfl,hb1⟩
     replace LL:=Ab ((Aa LL).on hb1)
     replace H3:=Ab ((Aa H3).on (Aa LL).below)
     clear hb1
     go_wp2_with (first|go_skip|((with_reducible apply Na);(case ho|hw|hx=>rfl);(case hc=>first|exact(Aa LL).get 0 rfl);simp only[nn])|((with_reducible apply Xi (d:=d));(case ho|hw|hx=>rfl);(intro X hc hs hb;simp only[nn];have HC:=Ab hc;replace LL:=Ab ((Aa LL).on hb);replace H3:=Ab ((Aa H3).on hb);clear hc hs hb)))
     refine(Aa HAn _).mono ?_
     rintro _ w2 ⟨rfl,hb2⟩
     replace LL:=Ab ((Aa LL).on hb2)
     replace H3:=Ab ((Aa H3).on hb2)
     clear hb2
     go_wp2_with (first|go_skip|((with_reducible apply Na);(case ho|hw|hx=>rfl);(case hc=>first|exact(Aa LL).get 0 rfl);simp only[nn])|((with_reducible apply Xi (d:=d));(case ho|hw|hx=>rfl);(intro X hc hs hb;simp only[nn];have HC:=Ab hc;replace LL:=Ab ((Aa LL).on hb);replace H3:=Ab ((Aa H3).on hb);clear hc hs hb))|((with_reducible apply Ep (m:= [d]));(case hgd|ho|hs|hx=>rfl);(case hown=>exact(Aa H3).o4);(case hu=>exact Aa HC);(case hcap=>exact(fun c hc=>by cases hc));(case hn=>exact Aa HN4);(case hbase=>exact(Aa H3).below.size);(intro v9 X9 k1 k2 k3;simp only[nn];have H4:=Ab ((Aa H3).put4 k1 k2 k3);clear k1 k2 k3)))
     go_roundg (l.length - (j+1))
     case measure=>omega
     case rel=>exact⟨j+1,by go_num,by omega,Nat.le_refl _,Ab (by unfold G3;rw[(Aa HQ).1,(Aa HQ).2.1,(Aa HQ).2.2];exact Aa H4)⟩
    ·have h2:kd d=2:=by omega
     clear h0 h1
     rw[h2] at HK
     obtain⟨q1,q2,q3⟩:=step_2 (l.take j) d h2
     rw[←hst] at q1 q2 q3
     have HQ:=Ab (And.intro q1 (And.intro q2 q3))
     clear q1 q2 q3 hst h2 hkr
     go_wp2_with (first|go_skip|((with_reducible apply Xh (j:=j));(case ho|hw|hx|hix=>rfl);(case hj=>exact hlt);simp only[nn])|((with_reducible apply Zbw (d:=d));(case ho|hw|hx=>rfl);(case hc=>exact Aa HR);simp only[nn])|((with_reducible apply Ld);(case ho|hw=>rfl);(case hL=>exact Aa LL);(intro X LX hbX;simp only[nn];simp only[List.cons_append,List.nil_append] at LX;replace LL:=Ab LX;clear LX hbX))|((with_reducible apply La (u:=d) (l:= []) (d:=Gv));(case ho|hw=>rfl);(case hL=>exact Aa LL);(case hx|hy|hm=>rfl);(case hne=>exact fun q hq=>by cases hq);(intro X LX hgX hsX;simp only[nn];simp only[List.cons_append,List.nil_append] at LX;replace LL:=Ab LX;clear LX hgX hsX))|((with_reducible apply Na);(case ho|hw|hx=>rfl);(case hc=>first|exact(Aa LL).get 0 rfl);simp only[nn]))
     refine(Aa HK _).mono ?_
     rintro _ w1 ⟨rfl,hb1⟩
     replace LL:=Ab ((Aa LL).on hb1)
     replace H3:=Ab ((Aa H3).on (Aa LL).below)
     clear hb1
     go_wp2_with (first|go_skip|((with_reducible apply Na);(case ho|hw|hx=>rfl);(case hc=>first|exact(Aa LL).get 0 rfl);simp only[nn])|((with_reducible apply Xi (d:=d));(case ho|hw|hx=>rfl);(intro X hc hs hb;simp only[nn];have HC:=Ab hc;replace LL:=Ab ((Aa LL).on hb);replace H3:=Ab ((Aa H3).on hb);clear hc hs hb))|((with_reducible apply Ep (m:= [d]));(case hgd|ho|hs|hx=>rfl);(case hown=>exact(Aa H3).o5);(case hu=>exact Aa HC);(case hcap=>exact(fun c hc=>by cases hc));(case hn=>exact Aa HN5);(case hbase=>exact(Aa H3).below.size);(intro v9 X9 k1 k2 k3;simp only[nn];have H4:=Ab ((Aa H3).put5 k1 k2 k3);clear k1 k2 k3)))
     go_roundg (l.length - (j+1))
     case measure=>omega
     case rel=>exact⟨j+1,by go_num,by omega,Nat.le_refl _,Ab (by unfold G3;rw[(Aa HQ).1,(Aa HQ).2.1,(Aa HQ).2.2];exact Aa H4)⟩
  ·have hjz: ¬(j:Int)<l.length:=by omega
   have H3:Hid (R3 w wr u3 u4 u5 (ixs l) (Kd l) (Kc l)):=Ab (by have:=Aa H3;unfold G3 at this;rw[List.take_of_length_le (by omega)] at this;exact this)
   have HLd:Hid ((ixs l).length<=1500000/\(Kd l).length<=1500000/\(Kc l).length<=1500000):=Ab ⟨Nat.le_trans (Zc5 l) hlen,Nat.le_trans (Za2 l) hlen,Nat.le_trans (Za1 l) hlen⟩
   have HIx:Hid (∀u∈mg (ixs l),u<=4294967295):=Ab (mg_le l)
   obtain⟨dd,hdd⟩: ∃dd,dd=ixs l:=⟨_,rfl⟩
   obtain⟨ks,hks⟩: ∃ks,ks=Kd l:=⟨_,rfl⟩
   obtain⟨ys,hys⟩: ∃ys,ys=Kc l:=⟨_,rfl⟩
   rw[←hdd,←hks,←hys] at H3 HLd
   rw[←hdd] at HIx
   have HD:=Ab (And.intro hdd (And.intro hks hys))
   clear hdd hks hys
   have HS:=Ab (Za4 u3 dd w.heap.size wr (Aa H3).o3 (Aa HLd).1)
   go_wp2_with fail
   refine(Aa HS).mono ?_
   rintro _ w1 ⟨rfl,hg1,hi1,hn1⟩
   have HG1:=Ab hg1
   have HI1:=Ab hi1
   have HN1:=Ab hn1
   clear hg1 hi1 hn1
   by_cases hnb:u3.ownBlock=none
   ·obtain⟨rfl,rfl⟩:=Aa HN1 hnb
    have HM4:Hid (([]:List KK).length+ks.length<=6000000):=Ab (by have:=(Aa HLd).2.1;simp;omega)
    have HM5:Hid ((([]:List KK)++ks).length+ys.length<=6000000):=Ab (by have h1:=(Aa HLd).2.1;have h2:=(Aa HLd).2.2;simp;omega)
    go_wp2_with (first|go_skip|((with_reducible apply Zc4 (c:=l.length) (base:=w.heap.size));(case ho|hw|hx=>rfl);(case hc=>omega);(case hb=>exact Nat.le_trans (Aa H3).below.size (Aa HG1).size);(intro X9 B9 k1 k2 k3;simp only[nn];have H4:=Ab ((Aa H3).sorted (Aa HG1) k1 k2 k3);have HX9:=Ab k3;clear k1 k2 k3)))
    go_loopg [10,52] 0 (fun gm s10 s52 wr2=>s52= .int .i64 0/\Hid (R4 w wr2 u4 u5 s10 ks ys [] none none))
    case atStart=>exact⟨rfl,H4⟩
    case round=>
     clear H4
     obtain⟨rfl,H4⟩:=hrel
     go_wp2_with (first|go_skip|((with_reducible apply Ep (m:=ks));(case hgd|ho|hs|hx=>rfl);(case hown=>exact(Aa H4).o10);(case hu=>exact(Aa H4).o4.reads);(case hcap=>exact Lm (Aa H4).o4);(case hn=>exact Aa HM4);(case hbase=>exact(Aa H4).below.size);(intro v9 X8 k1 k2 k3;simp only[nn];replace H4:=Ab ((Aa H4).put k1 k2 k3);clear k1 k2 k3))|((with_reducible apply Ep (m:=ys));(case hgd|ho|hs|hx=>rfl);(case hown=>exact(Aa H4).o10);(case hu=>exact(Aa H4).o5.reads);(case hcap=>exact Lm (Aa H4).o5);(case hn=>exact Aa HM5);(case hbase=>exact(Aa H4).below.size);(intro v9 X8 k1 k2 k3;simp only[nn];replace H4:=Ab ((Aa H4).put k1 k2 k3);clear k1 k2 k3)))
     go_ret
     refine⟨_,rfl, ?_,(Aa H4).below⟩
     rw[←(Aa HD).1,←(Aa HD).2.1,←(Aa HD).2.2,mg_nil]
     first|exact(Aa H4).o10|(have h9:=(Aa H4).o10;rw[List.append_assoc] at h9;exact h9)
   ·obtain⟨gi,hgi⟩: ∃g,u3.ownBlock=some g:=Option.ne_none_iff_exists'.1 hnb
    obtain⟨c3,hs3,hl3⟩:=Aa HI1 gi hgi
    have HL3:=Ab hl3
    subst hs3
    clear hl3 hnb
    have hdl:(mg dd).length=dd.length:=Zcq dd
    have hd3:=(Aa HLd).1
    have HM4:Hid ((Jg (mg dd)).length+ks.length<=6000000):=Ab (by have:=(Aa HLd).2.1;unfold Jg;rw[List.length_map];omega)
    have HM5:Hid ((Jg (mg dd)++ks).length+ys.length<=6000000):=Ab (by have h1:=(Aa HLd).2.1;have h2:=(Aa HLd).2.2;unfold Jg;rw[List.length_append,List.length_map];omega)
    go_wp2_with (first|go_skip|((with_reducible apply Zc4 (c:=l.length) (base:=w.heap.size));(case ho|hw|hx=>rfl);(case hc=>omega);(case hb=>exact Nat.le_trans (Aa H3).below.size (Aa HG1).size);(intro X9 B9 k1 k2 k3;simp only[nn];have H4:=Ab ((Aa H3).sorted (Aa HG1) k1 k2 k3);have HX9:=Ab k3;clear k1 k2 k3)))
    obtain⟨ob,hob⟩: ∃ob,ob=((Value.slice (some ⟨gi,0,none⟩) dd.length c3).ownBlock.bind fun g=>w1.heap[g]?):=⟨_,rfl⟩
    rw[←hob] at H4
    have hob2:ob=w1.heap[gi]? :=hob
    clear hob
    go_loopg [10,52] dd.length (fun gm s10 s52 wr2=> ∃j2:Nat,s52= .int .i64 j2/\j2<=dd.length/\dd.length - j2<=gm/\Hid (R4 w wr2 u4 u5 s10 ks ys (Jg ((mg dd).take j2)) (some gi) ob))
    case atStart=>exact⟨0,rfl,by omega,by omega,H4⟩
    case round=>
     clear H4
     obtain⟨j2,rfl,hj2,hg2,H4⟩:=hrel
     by_cases hlt2:j2<dd.length
     ·have hjz2:(j2:Int)<dd.length:=by omega
      have hju:j2<(mg dd).length:=by omega
      obtain⟨un,hun⟩: ∃u,u=(mg dd)[j2]:=⟨_,rfl⟩
      have hule:un<=4294967295:=by rw[hun];exact Aa HIx _ (List.getElem_mem hju)
      have hLw:LiesU wr gi (mg dd).toArray:=(Aa HL3).blk ((Aa H4).idx gi rfl).2.1 hob2
      have hcell:=(hLw.cell j2 (by simpa using hju)).1
      have hge:(mg dd).toArray[j2]! =un:=by rw[hun,getElem!_pos (mg dd).toArray j2 (by simpa using hju)];simp
      rw[hge] at hcell
      clear hLw hge
      have HNo:Hid ((Jg ((mg dd).take j2)).length+ [(⟨Qu un,0⟩:KK)].length<=6000000):=Ab (by unfold Jg;rw[List.length_map,List.length_take];simp;omega)
      have HO:Hid (Jg ((mg dd).take (j2+1))=Jg ((mg dd).take j2)++ [⟨Qu un,0⟩]):=Ab (by unfold Jg;rw[List.take_succ_eq_append_getElem hju,List.map_append,←hun];rfl)
      have HFI:=Ab (fun w hT=>Ue un hule w hT)
      clear hun hule
      go_wp2_with fail
      refine(Aa HFI _ (((Aa HT).get (Aa HD).1 hju).on (Aa H4).below)).mono ?_
      rintro _ w2 ⟨rfl,hb2⟩
      clear hcell
      replace H4:=Ab ((Aa H4).on hb2)
      clear hb2
      go_wp2_with (first|go_skip|((with_reducible apply Xi (d:=⟨Qu un,0⟩));(case ho|hw|hx=>rfl);(intro X hc hs hb;simp only[nn];have HC:=Ab hc;replace H4:=Ab ((Aa H4).on hb);clear hc hs hb))|((with_reducible apply Ep (m:= [⟨Qu un,0⟩]));(case hgd|ho|hs|hx=>rfl);(case hown=>exact(Aa H4).o10);(case hu=>exact Aa HC);(case hcap=>exact(fun c hc=>by cases hc));(case hn=>exact Aa HNo);(case hbase=>exact(Aa H4).below.size);(intro v9 X8 k1 k2 k3;simp only[nn];replace H4:=Ab ((Aa H4).put k1 k2 k3);clear k1 k2 k3)))
      go_roundg (dd.length - (j2+1))
      case measure=>omega
      case rel=>exact⟨j2+1,by go_num,by omega,Nat.le_refl _,Ab (by rw[Aa HO];exact Aa H4)⟩
     ·have hjz2: ¬(j2:Int)<dd.length:=by omega
      replace H4:Hid (R4 w wr u4 u5 u10 ks ys (Jg (mg dd)) (some gi) ob):=Ab (by have:=Aa H4;rw[List.take_of_length_le (by omega)] at this;exact this)
      go_wp2_with (first|go_skip|((with_reducible apply Ep (m:=ks));(case hgd|ho|hs|hx=>rfl);(case hown=>exact(Aa H4).o10);(case hu=>exact(Aa H4).o4.reads);(case hcap=>exact Lm (Aa H4).o4);(case hn=>exact Aa HM4);(case hbase=>exact(Aa H4).below.size);(intro v9 X8 k1 k2 k3;simp only[nn];replace H4:=Ab ((Aa H4).put k1 k2 k3);clear k1 k2 k3))|((with_reducible apply Ep (m:=ys));(case hgd|ho|hs|hx=>rfl);(case hown=>exact(Aa H4).o10);(case hu=>exact(Aa H4).o5.reads);(case hcap=>exact Lm (Aa H4).o5);(case hn=>exact Aa HM5);(case hbase=>exact(Aa H4).below.size);(intro v9 X8 k1 k2 k3;simp only[nn];replace H4:=Ab ((Aa H4).put k1 k2 k3);clear k1 k2 k3)))
      go_ret
      refine⟨_,rfl, ?_,(Aa H4).below⟩
      rw[←(Aa HD).1,←(Aa HD).2.1,←(Aa HD).2.2]
      first|exact(Aa H4).o10|(have h9:=(Aa H4).o10;rw[List.append_assoc] at h9;exact h9)
theorem Zbl (A:Option Addr) (cap:Nat) (w:World) (htab:TabL [] w):Calls Tryz.prog 185 #[.slice A 0 cap] w fun e w'=> ∃v,e= .returned v/\OwnK w' w.heap.size v (Jg (mg (ixs []))++Kd []++Kc [])/\Below w.heap.size w w':=by
 have HT:=Ab htab
 clear htab
 go_enter Tryz.func185,Tryz.ntmps185
 go_wp2_with fail
 go_loopg [3,4,5,15] 0 (fun gm s3 s4 s5 s15 wr=>s15= .int .i64 0/\Hid (G3 w wr s3 s4 s5 []))
 case atStart=>exact⟨rfl,Ab (R3.nil w)⟩
 case round=>
  obtain⟨rfl,H3⟩:=hrel
  have H3:Hid (R3 w wr u3 u4 u5 (ixs []) (Kd []) (Kc [])):=H3
  have HLd:Hid ((ixs []).length<=1500000/\(Kd []).length<=1500000/\(Kc []).length<=1500000):=Ab ⟨Nat.zero_le _,Nat.zero_le _,Nat.zero_le _⟩
  have HIx:Hid (∀u∈mg (ixs []),u<=4294967295):=Ab (mg_le [])
  obtain⟨dd,hdd⟩: ∃dd,dd=ixs []:=⟨_,rfl⟩
  obtain⟨ks,hks⟩: ∃ks,ks=Kd []:=⟨_,rfl⟩
  obtain⟨ys,hys⟩: ∃ys,ys=Kc []:=⟨_,rfl⟩
  rw[←hdd,←hks,←hys] at H3 HLd
  rw[←hdd] at HIx
  have HD:=Ab (And.intro hdd (And.intro hks hys))
  clear hdd hks hys
  have HS:=Ab (Za4 u3 dd w.heap.size wr (Aa H3).o3 (Aa HLd).1)
  go_wp2_with fail
  refine(Aa HS).mono ?_
  rintro _ w1 ⟨rfl,hg1,hi1,hn1⟩
  have HG1:=Ab hg1
  have HI1:=Ab hi1
  have HN1:=Ab hn1
  clear hg1 hi1 hn1
  by_cases hnb:u3.ownBlock=none
  ·obtain⟨rfl,rfl⟩:=Aa HN1 hnb
   have HM4:Hid (([]:List KK).length+ks.length<=6000000):=Ab (by have:=(Aa HLd).2.1;simp;omega)
   have HM5:Hid ((([]:List KK)++ks).length+ys.length<=6000000):=Ab (by have h1:=(Aa HLd).2.1;have h2:=(Aa HLd).2.2;simp;omega)
   go_wp2_with (first|go_skip|((with_reducible apply Zc4 (c:=0) (base:=w.heap.size));(case ho|hw|hx=>rfl);(case hc=>omega);(case hb=>exact Nat.le_trans (Aa H3).below.size (Aa HG1).size);(intro X9 B9 k1 k2 k3;simp only[nn];have H4:=Ab ((Aa H3).sorted (Aa HG1) k1 k2 k3);have HX9:=Ab k3;clear k1 k2 k3)))
   go_loopg [10,52] 0 (fun gm s10 s52 wr2=>s52= .int .i64 0/\Hid (R4 w wr2 u4 u5 s10 ks ys [] none none))
   case atStart=>exact⟨rfl,H4⟩
   case round=>
    clear H4
    obtain⟨rfl,H4⟩:=hrel
    go_wp2_with (first|go_skip|((with_reducible apply Ep (m:=ks));(case hgd|ho|hs|hx=>rfl);(case hown=>exact(Aa H4).o10);(case hu=>exact(Aa H4).o4.reads);(case hcap=>exact Lm (Aa H4).o4);(case hn=>exact Aa HM4);(case hbase=>exact(Aa H4).below.size);(intro v9 X8 k1 k2 k3;simp only[nn];replace H4:=Ab ((Aa H4).put k1 k2 k3);clear k1 k2 k3))|((with_reducible apply Ep (m:=ys));(case hgd|ho|hs|hx=>rfl);(case hown=>exact(Aa H4).o10);(case hu=>exact(Aa H4).o5.reads);(case hcap=>exact Lm (Aa H4).o5);(case hn=>exact Aa HM5);(case hbase=>exact(Aa H4).below.size);(intro v9 X8 k1 k2 k3;simp only[nn];replace H4:=Ab ((Aa H4).put k1 k2 k3);clear k1 k2 k3)))
    go_ret
    refine⟨_,rfl, ?_,(Aa H4).below⟩
    rw[←(Aa HD).1,←(Aa HD).2.1,←(Aa HD).2.2,mg_nil]
    first|exact(Aa H4).o10|(have h9:=(Aa H4).o10;rw[List.append_assoc] at h9;exact h9)
  ·obtain⟨gi,hgi⟩: ∃g,u3.ownBlock=some g:=Option.ne_none_iff_exists'.1 hnb
   obtain⟨c3,hs3,hl3⟩:=Aa HI1 gi hgi
   have HL3:=Ab hl3
   subst hs3
   clear hl3 hnb
   have hdl:(mg dd).length=dd.length:=Zcq dd
   have hd3:=(Aa HLd).1
   have HM4:Hid ((Jg (mg dd)).length+ks.length<=6000000):=Ab (by have:=(Aa HLd).2.1;unfold Jg;rw[List.length_map];omega)
   have HM5:Hid ((Jg (mg dd)++ks).length+ys.length<=6000000):=Ab (by have h1:=(Aa HLd).2.1;have h2:=(Aa HLd).2.2;unfold Jg;rw[List.length_append,List.length_map];omega)
   go_wp2_with (first|go_skip|((with_reducible apply Zc4 (c:=0) (base:=w.heap.size));(case ho|hw|hx=>rfl);(case hc=>omega);(case hb=>exact Nat.le_trans (Aa H3).below.size (Aa HG1).size);(intro X9 B9 k1 k2 k3;simp only[nn];have H4:=Ab ((Aa H3).sorted (Aa HG1) k1 k2 k3);have HX9:=Ab k3;clear k1 k2 k3)))
   obtain⟨ob,hob⟩: ∃ob,ob=((Value.slice (some ⟨gi,0,none⟩) dd.length c3).ownBlock.bind fun g=>w1.heap[g]?):=⟨_,rfl⟩
   rw[←hob] at H4
   have hob2:ob=w1.heap[gi]? :=hob
   clear hob
   go_loopg [10,52] dd.length (fun gm s10 s52 wr2=> ∃j2:Nat,s52= .int .i64 j2/\j2<=dd.length/\dd.length - j2<=gm/\Hid (R4 w wr2 u4 u5 s10 ks ys (Jg ((mg dd).take j2)) (some gi) ob))
   case atStart=>exact⟨0,rfl,by omega,by omega,H4⟩
   case round=>
    clear H4
    obtain⟨j2,rfl,hj2,hg2,H4⟩:=hrel
    by_cases hlt2:j2<dd.length
    ·have hjz2:(j2:Int)<dd.length:=by omega
     have hju:j2<(mg dd).length:=by omega
     obtain⟨un,hun⟩: ∃u,u=(mg dd)[j2]:=⟨_,rfl⟩
     have hule:un<=4294967295:=by rw[hun];exact Aa HIx _ (List.getElem_mem hju)
     have hLw:LiesU wr gi (mg dd).toArray:=(Aa HL3).blk ((Aa H4).idx gi rfl).2.1 hob2
     have hcell:=(hLw.cell j2 (by simpa using hju)).1
     have hge:(mg dd).toArray[j2]! =un:=by rw[hun,getElem!_pos (mg dd).toArray j2 (by simpa using hju)];simp
     rw[hge] at hcell
     clear hLw hge
     have HNo:Hid ((Jg ((mg dd).take j2)).length+ [(⟨Qu un,0⟩:KK)].length<=6000000):=Ab (by unfold Jg;rw[List.length_map,List.length_take];simp;omega)
     have HO:Hid (Jg ((mg dd).take (j2+1))=Jg ((mg dd).take j2)++ [⟨Qu un,0⟩]):=Ab (by unfold Jg;rw[List.take_succ_eq_append_getElem hju,List.map_append,←hun];rfl)
     have HFI:=Ab (fun w hT=>Ue un hule w hT)
     clear hun hule
     go_wp2_with fail
     refine(Aa HFI _ (((Aa HT).get (Aa HD).1 hju).on (Aa H4).below)).mono ?_
     rintro _ w2 ⟨rfl,hb2⟩
     clear hcell
     replace H4:=Ab ((Aa H4).on hb2)
     clear hb2
     go_wp2_with (first|go_skip|((with_reducible apply Xi (d:=⟨Qu un,0⟩));(case ho|hw|hx=>rfl);(intro X hc hs hb;simp only[nn];have HC:=Ab hc;replace H4:=Ab ((Aa H4).on hb);clear hc hs hb))|((with_reducible apply Ep (m:= [⟨Qu un,0⟩]));(case hgd|ho|hs|hx=>rfl);(case hown=>exact(Aa H4).o10);(case hu=>exact Aa HC);(case hcap=>exact(fun c hc=>by cases hc));(case hn=>exact Aa HNo);(case hbase=>exact(Aa H4).below.size);(intro v9 X8 k1 k2 k3;simp only[nn];replace H4:=Ab ((Aa H4).put k1 k2 k3);clear k1 k2 k3)))
     go_roundg (dd.length - (j2+1))
     case measure=>omega
     case rel=>exact⟨j2+1,by go_num,by omega,Nat.le_refl _,Ab (by rw[Aa HO];exact Aa H4)⟩
    ·have hjz2: ¬(j2:Int)<dd.length:=by omega
     replace H4:Hid (R4 w wr u4 u5 u10 ks ys (Jg (mg dd)) (some gi) ob):=Ab (by have:=Aa H4;rw[List.take_of_length_le (by omega)] at this;exact this)
     go_wp2_with (first|go_skip|((with_reducible apply Ep (m:=ks));(case hgd|ho|hs|hx=>rfl);(case hown=>exact(Aa H4).o10);(case hu=>exact(Aa H4).o4.reads);(case hcap=>exact Lm (Aa H4).o4);(case hn=>exact Aa HM4);(case hbase=>exact(Aa H4).below.size);(intro v9 X8 k1 k2 k3;simp only[nn];replace H4:=Ab ((Aa H4).put k1 k2 k3);clear k1 k2 k3))|((with_reducible apply Ep (m:=ys));(case hgd|ho|hs|hx=>rfl);(case hown=>exact(Aa H4).o10);(case hu=>exact(Aa H4).o5.reads);(case hcap=>exact Lm (Aa H4).o5);(case hn=>exact Aa HM5);(case hbase=>exact(Aa H4).below.size);(intro v9 X8 k1 k2 k3;simp only[nn];replace H4:=Ab ((Aa H4).put k1 k2 k3);clear k1 k2 k3)))
     go_ret
     refine⟨_,rfl, ?_,(Aa H4).below⟩
     rw[←(Aa HD).1,←(Aa HD).2.1,←(Aa HD).2.2]
     first|exact(Aa H4).o10|(have h9:=(Aa H4).o10;rw[List.append_assoc] at h9;exact h9)
theorem Zu (v:Value) (l:List KK) (hz: ∀k∈l,k.s.size<=1048576) (w:World) (htab:TabL l w) (hr:Mo w v l) (hlen:l.length<=1500000):Calls Tryz.prog 185 #[v] w fun e w'=> ∃v,e= .returned v/\OwnK w' w.heap.size v (Jg (mg (ixs l))++Kd l++Kc l)/\Below w.heap.size w w':=by
 rcases hr with ⟨A,c,rfl,rfl⟩|⟨b,off,cap,rfl,hb,hr⟩
 ·exact Zbl A c w htab
 ·exact Zaw b off cap l hz w htab hb hr hlen
theorem Zcm (b off cap:Nat) (l:List KK) (w:World) (hT:Lib.Utf8Tabs 1 2 w) (htab:TabL l w) (hb:b<w.heap.size) (hr:RowsK w b off l) (hlen:l.length<=1500000):Calls Tryz.prog 180 #[.slice (some ⟨b,off,none⟩) l.length cap] w fun e w'=> ∃v n,e= .returned (.tuple #[v, .int .i64 n])/\Below w.heap.size w w'/\((l.all goodK=true/\n=0/\OwnK w' w.heap.size v (Jg (mg (ixs l))++Kd l++Kc l))∨(l.all goodK=false/\n=5/\v= .slice none 0 0)):=by
 have HRD:=Ab hr
 have HTP:=Ab htab
 have HT:=Ab hT
 clear hT
 clear hr htab
 go_enter Tryz.func180,Tryz.ntmps180
 go_wp2_with fail
 go_loopg [9] l.length (fun g s9 wr=> ∃j:Nat,s9= .int .i64 j/\j<=l.length/\l.length - j<=g/\Hid ((l.take j).all goodK=true)/\Hid (Below w.heap.size w wr))
 case atStart=>exact⟨0,rfl,by omega,by omega,Ab rfl,Ab (Below.refl _ _)⟩
 case round=>
  obtain⟨j,rfl,hj,hg,HA,HB⟩:=hrel
  by_cases hlt:j<l.length
  ·have hjz:(j:Int)<l.length:=by omega
   obtain⟨d,hd⟩: ∃d,d=l[j]:=⟨_,rfl⟩
   have HR:Hid (wr.rangeAt b (off+j * 2) d.cs):=Ab (by rw[hd];exact(Aa HRD).keep ((Aa HB).block b hb) j hlt)
   have HCk:=Ab (fun w hT=>Vd d.s d.n w hT)
   rw[Zdo] at HCk
   have eg:(Od d.s d.n).good=goodK d:=rfl
   rw[eg] at HCk
   have HTk:=Ab (all_take hlt)
   have HN:=Ab (fun hg=>all_not (l:=l) hlt hg)
   rw[←hd] at HTk HN
   generalize goodK d=gd at *
   clear hd eg
   have LL:=Ab (Kq.nil wr)
   cases gd
   ·simp only[Bool.false_eq_true,if_false] at HCk
    go_wp2_with (first|go_skip|((with_reducible apply Xh (j:=j));(case ho|hw|hx|hix=>rfl);(case hj=>exact hlt);simp only[nn])|((with_reducible apply Zbw (d:=d));(case ho|hw|hx=>rfl);(case hc=>exact Aa HR);simp only[nn])|((with_reducible apply Ld);(case ho|hw=>rfl);(case hL=>exact Aa LL);(intro X LX hbX;simp only[nn];simp only[List.cons_append,List.nil_append] at LX;replace LL:=Ab LX;clear LX hbX))|((with_reducible apply La (u:=d) (l:= []) (d:=Gv));(case ho|hw=>rfl);(case hL=>exact Aa LL);(case hx|hy|hm=>rfl);(case hne=>exact fun q hq=>by cases hq);(intro X LX hgX hsX;simp only[nn];simp only[List.cons_append,List.nil_append] at LX;replace LL:=Ab LX;clear LX hgX hsX))|((with_reducible apply Na);(case ho|hw|hx=>rfl);(case hc=>first|exact(Aa LL).get 0 rfl);simp only[nn]))
    refine(Aa HCk _ (Al (Aa HT) ((Aa HB).trans ((Aa LL).below.mono (Aa HB).size)))).mono ?_
    rintro _ w1 ⟨rfl,hb1⟩
    replace LL:=Ab ((Aa LL).on hb1)
    have HB1:=Ab ((Aa HB).trans ((Aa LL).below.mono (Aa HB).size))
    clear hb1
    go_wp2
    go_ret2
    exact⟨_,_,rfl,Aa HB1,Or.inr ⟨Aa HN (by trivial),rfl,rfl⟩⟩
   ·simp only[if_true] at HCk
    go_wp2_with (first|go_skip|((with_reducible apply Xh (j:=j));(case ho|hw|hx|hix=>rfl);(case hj=>exact hlt);simp only[nn])|((with_reducible apply Zbw (d:=d));(case ho|hw|hx=>rfl);(case hc=>exact Aa HR);simp only[nn])|((with_reducible apply Ld);(case ho|hw=>rfl);(case hL=>exact Aa LL);(intro X LX hbX;simp only[nn];simp only[List.cons_append,List.nil_append] at LX;replace LL:=Ab LX;clear LX hbX))|((with_reducible apply La (u:=d) (l:= []) (d:=Gv));(case ho|hw=>rfl);(case hL=>exact Aa LL);(case hx|hy|hm=>rfl);(case hne=>exact fun q hq=>by cases hq);(intro X LX hgX hsX;simp only[nn];simp only[List.cons_append,List.nil_append] at LX;replace LL:=Ab LX;clear LX hgX hsX))|((with_reducible apply Na);(case ho|hw|hx=>rfl);(case hc=>first|exact(Aa LL).get 0 rfl);simp only[nn]))
    refine(Aa HCk _ (Al (Aa HT) ((Aa HB).trans ((Aa LL).below.mono (Aa HB).size)))).mono ?_
    rintro _ w1 ⟨rfl,hb1⟩
    replace LL:=Ab ((Aa LL).on hb1)
    have HB1:=Ab ((Aa HB).trans ((Aa LL).below.mono (Aa HB).size))
    clear hb1
    go_wp2
    go_roundg (l.length - (j+1))
    case measure=>omega
    case rel=>exact⟨j+1,by go_num,by omega,Nat.le_refl _,Ab (by rw[Aa HTk,Aa HA];rfl),HB1⟩
  ·have hjz: ¬(j:Int)<l.length:=by omega
   have hall:l.all goodK=true:=by rw[←Aa HA,List.take_of_length_le (by omega)]
   have HE:=Ab hall
   have HO:=Ab (Zu (.slice (some ⟨b,off,none⟩) l.length cap) l (fun k hk=>Oy (List.all_eq_true.1 hall k hk)) wr ((Aa HTP).on (Aa HB)) (.inr ⟨b,off,cap,rfl,Nat.lt_of_lt_of_le hb (Aa HB).size,(Aa HRD).keep ((Aa HB).block b hb)⟩) hlen)
   clear hall
   go_wp2_with fail
   refine(Aa HO).mono ?_
   rintro _ w1 ⟨v1,rfl,ho1,hb1⟩
   have HO1:=Ab ho1
   have HB1:=Ab ((Aa HB).trans (hb1.mono (Aa HB).size))
   clear ho1 hb1
   go_wp2
   go_ret2
   exact⟨_,_,rfl,Aa HB1,Or.inl ⟨Aa HE,rfl,(Aa HO1).mono (Aa HB).size⟩⟩
theorem ZdM (A:Option Addr) (cap:Nat) (w:World) (htab:TabL [] w):Calls Tryz.prog 180 #[.slice A 0 cap] w fun e w'=> ∃v n,e= .returned (.tuple #[v, .int .i64 n])/\Below w.heap.size w w'/\((([]:List KK).all goodK=true/\n=0/\OwnK w' w.heap.size v (Jg (mg (ixs []))++Kd []++Kc []))∨(([]:List KK).all goodK=false/\n=5/\v= .slice none 0 0)):=by
 have HTP:=Ab htab
 clear htab
 go_enter Tryz.func180,Tryz.ntmps180
 go_wp2_with fail
 go_loopg [9] 0 (fun g s9 wr=>s9= .int .i64 0/\wr=w)
 case atStart=>exact⟨rfl,rfl⟩
 case round=>
  obtain⟨rfl,rfl⟩:=hrel
  have HO:=Ab (Zu (.slice A 0 cap) [] (fun k hk=>by cases hk) wr (Aa HTP) (.inl ⟨A,cap,rfl,rfl⟩) (by simp))
  go_wp2_with fail
  refine(Aa HO).mono ?_
  rintro _ w1 ⟨v1,rfl,ho1,hb1⟩
  have HO1:=Ab ho1
  have HB1:=Ab hb1
  clear ho1 hb1
  go_wp2
  go_ret2
  exact⟨_,_,rfl,Aa HB1,Or.inl ⟨rfl,rfl,Aa HO1⟩⟩
theorem order8 (v:Value) (l:List KK) (w:World) (hT:Lib.Utf8Tabs 1 2 w) (htab:TabL l w) (hr:Mo w v l) (hlen:l.length<=1500000):Calls Tryz.prog 180 #[v] w fun e w'=> ∃v n,e= .returned (.tuple #[v, .int .i64 n])/\Below w.heap.size w w'/\((l.all goodK=true/\n=0/\OwnK w' w.heap.size v (Jg (mg (ixs l))++Kd l++Kc l))∨(l.all goodK=false/\n=5/\v= .slice none 0 0)):=by
 rcases hr with ⟨A,c,rfl,rfl⟩|⟨b,off,cap,rfl,hb,hr⟩
 ·exact ZdM A c w htab
 ·exact Zcm b off cap l w hT htab hb hr hlen
end
section
open Go Go.Proofs Go.Maps Go.RowKit Tryz
theorem Hq.three (w:World) (E:List Nat) {b0:Nat} {c0:List Value} (h0:Holds w b0 c0) (hc0:0<c0.length) (a b:List Value) (s t:TypeId) (ha:0<a.length) (hb:0<b.length):Hq w ((w.alloc (Obj.cells a.toArray s)).alloc (Obj.cells b.toArray t)) E [(b0,c0),(w.heap.size,a),(w.heap.size+1,b)]:=by
 have h:=(((Hq.nil w E).add h0 hc0 (fun q hq=>by cases hq)).new a s ha).new b t hb
 rw[show (w.alloc (Obj.cells a.toArray s)).heap.size=w.heap.size+1 by simp] at h
 exact h
theorem Yi {o:Oper} {a:Act} {w:World} {x y:Operand} {k:KK} {d:DD} (ho:o.op= .build 50 #[(0,x),(1,y)]) (hx:a.eval x= .agg k.cs.toArray) (hy:a.eval y= .agg d.cs.toArray):(execOp a.eval o).run prog w= .ok (.value (.agg (k.cs++d.cs).toArray)) w:=by
 have e:(Instr.build 50 #[(0, .agg k.cs.toArray),(1, .agg d.cs.toArray)]).run prog w= .ok (.agg (k.cs++d.cs).toArray) w:=by kernel_rfl
 unfold execOp
 simp only[ho,List.map_toArray,List.map_cons,List.map_nil,hx,hy]
 simp[e]
theorem Zap {w X:World} {E:List Nat} (h:Lib.Utf8Tabs 1 2 w) (hf:Fr w X E) (hE: ∀b∈E,3<=b):Lib.Utf8Tabs 1 2 X:=by
 have hs:=Rc h
 have e2:X.heap[1]? =w.heap[1]? :=hf.block 1 (by omega) (fun hm=>by have:=hE _ hm;omega)
 have e3:X.heap[2]? =w.heap[2]? :=hf.block 2 (by omega) (fun hm=>by have:=hE _ hm;omega)
 exact⟨fun c hc=>(World.cell?_of_block (a:=⟨1,c,none⟩) e2).trans (h.1 c hc),fun i hi=>⟨(World.cell?_of_block (a:=⟨2,2 * i,none⟩) e3).trans (h.2 i hi).1,(World.cell?_of_block (a:=⟨2,2 * i+1,none⟩) e3).trans (h.2 i hi).2⟩⟩
theorem ZaS {T:TT} {w X:World} {rv:Value} {R:Nat} {k:KK} {d:DD} (hg: ∀g,rv.ownBlock=some g->T.rv.ownBlock=some g∨X.heap.size<=g) (hR:w.heap.size<=R) (hs:w.heap.size<=X.heap.size): ∀b∈(T.added rv R k d).blocks,b∈T.blocks∨w.heap.size<=b:=by
 intro b hb
 simp only[TT.blocks,TT.added,List.mem_cons,List.mem_append,List.map_append,List.map_cons,List.map_nil,List.not_mem_nil,or_false] at hb ⊢
 rcases hb with h|h|h|h|h
 ·exact .inl (.inl h)
 ·exact .inl (.inr (.inl h))
 ·rcases hg b (by simpa using h) with h|h
  ·exact .inl (.inr (.inr (.inl (by rw[h];simp))))
  ·exact .inr (by omega)
 ·exact .inl (.inr (.inr (.inr h)))
 ·exact .inr (by omega)
theorem put_some (T:TT) (k:KK) (d:DD) (w:World) (hT:T.Is w) (hU:Lib.Utf8Tabs 1 2 w) (hk:OkK k) (hl:T.last<4000000) (r:RR) (hf:T.find k=some r):Calls prog 90 #[.pointer (some ⟨T.t,0,none⟩),k.agg,d.agg] w fun e w'=>e= .returned (.int .i64 (0))/\ ∃T':TT,T'.Is w'/\T'.t=T.t/\Fr w w' T.blocks/\(∀b∈T'.blocks,b∈T.blocks∨w.heap.size<=b)/\((∃r,T.find k=some r/\T'=T.upd r.b d)∨(T.find k=none/\goodK k=true/\ ∃rv R,T'=T.added rv R k d)∨(T.find k=none/\goodK k=false/\T'=T)):=by
 have hr:=(T.find_mem hf).1
 have LL:=Ab (Hq.three w T.blocks (hT.rows r hr) (Nat.succ_pos _) k.cs d.cs 45 48 (Nat.succ_pos _) (Nat.succ_pos _))
 have HT:=Ab (hT.on (Lx w k.cs.toArray d.cs.toArray 45 48))
 have HH:=Ab hT
 clear hT
 rw[show k.agg= .agg k.cs.toArray from rfl,show d.agg= .agg d.cs.toArray from rfl]
 go_enter func90,ntmps90
 go_wp2
 refine wp_region_held_drew (P:=prog) (S:=fun X=>T.Is X/\Hq w X T.blocks [(r.b,r.cs),(w.heap.size,k.cs),(w.heap.size+1,d.cs)]) (by kernel_rfl) ⟨(Aa HT).drew,(Aa LL).drew⟩ (fun hS0=> ?_)
 refine y0 0 (some 11) (.pointer (some ⟨T.t,0,none⟩)) rfl hS0 ?_
 refine y0 1 (some 12) (.pointer (some ⟨T.t,0,none⟩)) rfl hS0 ?_
 refine y0 2 (some 13) (.pointer (some ⟨T.t,0,none⟩)) rfl hS0 ?_
 refine y1 3 (some 14) (.map (some T.m)) rfl (fun X hX=>Ag 162 isAgg162 rfl rfl (hX.1.tab) rfl) hS0 ?_
 refine y1 4 (some 15) (k.agg) rfl (fun X hX=>Am (vs:=k.cs) 45 2 Gm Jr rfl rfl (hX.2.get 1 rfl) rfl rfl) hS0 ?_
 refine y1 5 (some 16) (.tuple #[pv (some r.b), .bool true]) rfl (fun X hX=>Mm (r:=some r.b) rfl rfl rfl hX.1.map hk (by rw[hf];rfl)) hS0 ?_
 refine y0 6 (some 10) (.tuple #[pv (some r.b), .bool true]) rfl hS0 ?_
 refine y0 7 (some 17) (pv (some r.b)) rfl hS0 ?_
 refine y0 9 (some 7) (pv (some r.b)) rfl hS0 ?_
 refine y0 8 (some 18) (.bool true) rfl hS0 ?_
 refine y0 10 (some 8) (.bool true) rfl hS0 ?_
 refine dn ?_
 try simp only[nn]
 replace HT:=Ab hS0.1
 replace LL:=Ab hS0.2
 clear hS0
 unfold pv
 have hrb:=Ab (TT.Part.mem (T:=T) (.inr (.inr (List.mem_map.2 ⟨r,hr,rfl⟩))))
 go_wp2_with (first|go_skip|(refine rd rfl (Am (vs:=d.cs) 48 18 Vl Oj rfl rfl ((Aa LL).get 2 rfl) rfl rfl) ?_)|((refine st (vs:=d.cs) 0 48 (by rfl) rfl rfl rfl rfl (by simp[DD.cs,VV.cs,Value.oneCell']) Oj (Aa LL) rfl (by simp[Pe,Dz]) (Or.inl (Aa hrb)) ?_);intro w3 L3 hf3 hs3;replace LL:=Ab L3;have HF:=Ab hf3;clear L3 hf3 hs3;simp only[nn]))
 go_ret
 exact⟨rfl,T.upd r.b d,(Aa HT).upd hr (Aa HF) ((Aa LL).get 0 rfl),rfl,(Aa LL).fr,(fun b hb=>Or.inl (T.upd_blocks r.b d▸hb)),Or.inl ⟨r,hf,rfl⟩⟩
theorem put_good (T:TT) (k:KK) (d:DD) (w:World) (hT:T.Is w) (hU:Lib.Utf8Tabs 1 2 w) (hk:OkK k) (hl:T.last<4000000) (hTT:Hid (∀b∈T.blocks,3<=b)) (hf:T.find k=none) (hg:goodK k=true):Calls prog 90 #[.pointer (some ⟨T.t,0,none⟩),k.agg,d.agg] w fun e w'=>e= .returned (.int .i64 (0))/\ ∃T':TT,T'.Is w'/\T'.t=T.t/\Fr w w' T.blocks/\(∀b∈T'.blocks,b∈T.blocks∨w.heap.size<=b)/\((∃r,T.find k=some r/\T'=T.upd r.b d)∨(T.find k=none/\goodK k=true/\ ∃rv R,T'=T.added rv R k d)∨(T.find k=none/\goodK k=false/\T'=T)):=by
 have HU:=Ab hU
 clear hU
 have LL:=Ab (Hq.two w T.blocks k.cs d.cs 45 48 (Nat.succ_pos _) (Nat.succ_pos _))
 have HT:=Ab (hT.on (Lx w k.cs.toArray d.cs.toArray 45 48))
 have HH:=Ab hT
 clear hT
 rw[show k.agg= .agg k.cs.toArray from rfl,show d.agg= .agg d.cs.toArray from rfl]
 go_enter func90,ntmps90
 go_wp2
 refine wp_region_held_drew (P:=prog) (S:=fun X=>T.Is X/\Hq w X T.blocks [(w.heap.size,k.cs),(w.heap.size+1,d.cs)]) (by kernel_rfl) ⟨(Aa HT).drew,(Aa LL).drew⟩ (fun hS0=> ?_)
 refine y0 0 (some 11) (.pointer (some ⟨T.t,0,none⟩)) rfl hS0 ?_
 refine y0 1 (some 12) (.pointer (some ⟨T.t,0,none⟩)) rfl hS0 ?_
 refine y0 2 (some 13) (.pointer (some ⟨T.t,0,none⟩)) rfl hS0 ?_
 refine y1 3 (some 14) (.map (some T.m)) rfl (fun X hX=>Ag 162 isAgg162 rfl rfl (hX.1.tab) rfl) hS0 ?_
 refine y1 4 (some 15) (k.agg) rfl (fun X hX=>Am (vs:=k.cs) 45 2 Gm Jr rfl rfl (hX.2.get 0 rfl) rfl rfl) hS0 ?_
 refine y1 5 (some 16) (.tuple #[pv (none), .bool false]) rfl (fun X hX=>Mm (r:=none) rfl rfl rfl hX.1.map hk (by rw[hf];rfl)) hS0 ?_
 refine y0 6 (some 10) (.tuple #[pv (none), .bool false]) rfl hS0 ?_
 refine y0 7 (some 17) (pv (none)) rfl hS0 ?_
 refine y0 9 (some 7) (pv (none)) rfl hS0 ?_
 refine y0 8 (some 18) (.bool false) rfl hS0 ?_
 refine y0 10 (some 8) (.bool false) rfl hS0 ?_
 refine dn ?_
 try simp only[nn]
 replace HT:=Ab hS0.1
 replace LL:=Ab hS0.2
 clear hS0
 unfold pv
 go_wp2_with (first|go_skip|(refine rd rfl (Am (vs:=k.cs) 45 2 Gm Jr rfl rfl ((Aa LL).get 0 rfl) rfl rfl) ?_))
 refine(Vd k.s k.n _ (Zap (Aa HU) (Aa LL).fr (Aa hTT))).mono ?_
 rintro _ w4 ⟨rfl,hb⟩
 rw[show (Od k.s k.n).good=goodK k from rfl,hg]
 replace HT:=Ab ((Aa HT).on hb)
 replace LL:=Ab ((Aa LL).on hb)
 clear hb
 simp only[if_true]
 go_wp2_with (first|go_skip|(refine rd rfl (Am (vs:=k.cs) 45 2 Gm Jr rfl rfl ((Aa LL).get 0 rfl) rfl rfl) ?_)|(refine rd rfl (Am (vs:=d.cs) 48 18 Vl Oj rfl rfl ((Aa LL).get 1 rfl) rfl rfl) ?_)|(refine rd rfl (Yi rfl rfl rfl) ?_))
 refine(add34 T k d _ (Aa HT) hk hg hf hl).mono ?_
 rintro _ w5 ⟨rfl,rv,R,hT5,hF5,hR5,hg5⟩
 have HF:=Ab ((Aa LL).fr.trans hF5 (fun b hb=>Or.inl hb))
 have hs:=(Aa LL).fr.size
 have H5:=Ab hT5
 have H6:=Ab hg5
 have H7:=Ab (Nat.le_trans hs hR5)
 have H8:=Ab hs
 clear hT5 hF5 hg5 hR5 hs
 go_wp2
 go_ret
 refine⟨rfl,_,Aa H5,rfl,Aa HF, ?_,Or.inr (Or.inl ⟨hf,hg,rv,R,rfl⟩)⟩
 exact ZaS (Aa H6) (Aa H7) (Aa H8)
theorem put_bad (T:TT) (k:KK) (d:DD) (w:World) (hT:T.Is w) (hU:Lib.Utf8Tabs 1 2 w) (hk:OkK k) (hl:T.last<4000000) (hTT:Hid (∀b∈T.blocks,3<=b)) (hf:T.find k=none) (hg:goodK k=false):Calls prog 90 #[.pointer (some ⟨T.t,0,none⟩),k.agg,d.agg] w fun e w'=>e= .returned (.int .i64 (5))/\ ∃T':TT,T'.Is w'/\T'.t=T.t/\Fr w w' T.blocks/\(∀b∈T'.blocks,b∈T.blocks∨w.heap.size<=b)/\((∃r,T.find k=some r/\T'=T.upd r.b d)∨(T.find k=none/\goodK k=true/\ ∃rv R,T'=T.added rv R k d)∨(T.find k=none/\goodK k=false/\T'=T)):=by
 have HU:=Ab hU
 clear hU
 have LL:=Ab (Hq.two w T.blocks k.cs d.cs 45 48 (Nat.succ_pos _) (Nat.succ_pos _))
 have HT:=Ab (hT.on (Lx w k.cs.toArray d.cs.toArray 45 48))
 have HH:=Ab hT
 clear hT
 rw[show k.agg= .agg k.cs.toArray from rfl,show d.agg= .agg d.cs.toArray from rfl]
 go_enter func90,ntmps90
 go_wp2
 refine wp_region_held_drew (P:=prog) (S:=fun X=>T.Is X/\Hq w X T.blocks [(w.heap.size,k.cs),(w.heap.size+1,d.cs)]) (by kernel_rfl) ⟨(Aa HT).drew,(Aa LL).drew⟩ (fun hS0=> ?_)
 refine y0 0 (some 11) (.pointer (some ⟨T.t,0,none⟩)) rfl hS0 ?_
 refine y0 1 (some 12) (.pointer (some ⟨T.t,0,none⟩)) rfl hS0 ?_
 refine y0 2 (some 13) (.pointer (some ⟨T.t,0,none⟩)) rfl hS0 ?_
 refine y1 3 (some 14) (.map (some T.m)) rfl (fun X hX=>Ag 162 isAgg162 rfl rfl (hX.1.tab) rfl) hS0 ?_
 refine y1 4 (some 15) (k.agg) rfl (fun X hX=>Am (vs:=k.cs) 45 2 Gm Jr rfl rfl (hX.2.get 0 rfl) rfl rfl) hS0 ?_
 refine y1 5 (some 16) (.tuple #[pv (none), .bool false]) rfl (fun X hX=>Mm (r:=none) rfl rfl rfl hX.1.map hk (by rw[hf];rfl)) hS0 ?_
 refine y0 6 (some 10) (.tuple #[pv (none), .bool false]) rfl hS0 ?_
 refine y0 7 (some 17) (pv (none)) rfl hS0 ?_
 refine y0 9 (some 7) (pv (none)) rfl hS0 ?_
 refine y0 8 (some 18) (.bool false) rfl hS0 ?_
 refine y0 10 (some 8) (.bool false) rfl hS0 ?_
 refine dn ?_
 try simp only[nn]
 replace HT:=Ab hS0.1
 replace LL:=Ab hS0.2
 clear hS0
 unfold pv
 go_wp2_with (first|go_skip|(refine rd rfl (Am (vs:=k.cs) 45 2 Gm Jr rfl rfl ((Aa LL).get 0 rfl) rfl rfl) ?_))
 refine(Vd k.s k.n _ (Zap (Aa HU) (Aa LL).fr (Aa hTT))).mono ?_
 rintro _ w4 ⟨rfl,hb⟩
 rw[show (Od k.s k.n).good=goodK k from rfl,hg]
 replace HT:=Ab ((Aa HT).on hb)
 replace LL:=Ab ((Aa LL).on hb)
 clear hb
 simp only[Bool.false_eq_true,if_false]
 go_wp2_with (first|go_skip|(refine rd rfl (Am (vs:=k.cs) 45 2 Gm Jr rfl rfl ((Aa LL).get 0 rfl) rfl rfl) ?_)|(refine rd rfl (Am (vs:=d.cs) 48 18 Vl Oj rfl rfl ((Aa LL).get 1 rfl) rfl rfl) ?_)|(refine rd rfl (Yi rfl rfl rfl) ?_))
 go_ret
 exact⟨rfl,T,Aa HT,rfl,(Aa LL).fr,(fun b hb=>Or.inl hb),Or.inr (Or.inr ⟨hf,hg,rfl⟩)⟩
theorem put12 (T:TT) (k:KK) (d:DD) (w:World) (hT:T.Is w) (hU:Lib.Utf8Tabs 1 2 w) (hk:OkK k) (hl:T.last<4000000) (hTT: ∀b∈T.blocks,3<=b):Calls prog 90 #[.pointer (some ⟨T.t,0,none⟩),k.agg,d.agg] w fun e w'=>e= .returned (.int .i64 (if goodK k then 0 else 5))/\ ∃T':TT,T'.Is w'/\T'.t=T.t/\Fr w w' T.blocks/\(∀b∈T'.blocks,b∈T.blocks∨w.heap.size<=b)/\((∃r,T.find k=some r/\T'=T.upd r.b d)∨(T.find k=none/\goodK k=true/\ ∃rv R,T'=T.added rv R k d)∨(T.find k=none/\goodK k=false/\T'=T)):=by
 by_cases hx:T.find k=none
 rotate_left
 ·obtain⟨r,hf⟩:=Option.ne_none_iff_exists'.1 hx
  have hg:goodK k=true:=by
   have h1:=T.find_mem hf
   rw[←h1.2.2]
   exact hT.good r (by simp[TT.live,h1.1,h1.2.1])
  rw[if_pos hg]
  have:=put_some T k d w hT hU hk hl r hf
  exact this
 ·have hf:=hx
  by_cases hg:goodK k=true
  ·rw[if_pos hg]
   have:=put_good T k d w hT hU hk hl (Ab hTT) hf hg
   exact this
  ·rw[if_neg hg]
   have:=put_bad T k d w hT hU hk hl (Ab hTT) hf (by simpa using hg)
   exact this
