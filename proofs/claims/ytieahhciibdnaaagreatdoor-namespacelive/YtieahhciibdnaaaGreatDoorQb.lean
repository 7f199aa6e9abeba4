import GoSem.Claim
set_option linter.all false
namespace Go.Proofs.YtieahhciibdnaaaGreatDoor
set_option maxRecDepth 100000
set_option maxHeartbeats 0
section
namespace M
def isHi (c:Nat):Bool:=decide (55296<=c) && decide (c<56320)
def isLo (c:Nat):Bool:=decide (56320<=c) && decide (c<=57343)
def E (c:Nat):List Nat:=
 if c<128 then [c] else if c<2048 then [192+c / 64,128+c % 64]
 else if c<65536 then [224+c / 4096,128+c / 64 % 64,128+c % 64]
 else [240+c / 262144,128+c / 4096 % 64,128+c / 64 % 64,128+c % 64]
def U (c:Nat):List Nat:=if c<65536 then [c] else [55296+(c - 65536) / 1024,56320+(c - 65536) % 1024]
def Ji:Bool->List Nat->Bool
 |_, []=>true
 |h,c::r=> !(h && isLo c) && Ji (isHi c) r

def okc (c:Nat):Bool:=decide (c<55296)||(decide (57343<c) && decide (c<=1114111))
def goD (l:List Nat):Nat×Nat:=
 if l.length=0 then (65533,0) else
 if l.getD 0 0<128 then (l.getD 0 0,1) else
 if l.getD 0 0 / 32=6/\1<l.length/\l.getD 1 0 / 64=2 then
  (if 128<=l.getD 0 0 % 32 * 64+l.getD 1 0 % 64 then (l.getD 0 0 % 32 * 64+l.getD 1 0 % 64,2) else (65533,1)) else
 if l.getD 0 0 / 16=14/\1<l.length/\l.getD 1 0 / 64=2/\2<l.length/\l.getD 2 0 / 64=2 then
  (if 2048<=l.getD 0 0 % 16 * 4096+l.getD 1 0 % 64 * 64+l.getD 2 0 % 64/\okc (l.getD 0 0 % 16 * 4096+l.getD 1 0 % 64 * 64+l.getD 2 0 % 64)=true then (l.getD 0 0 % 16 * 4096+l.getD 1 0 % 64 * 64+l.getD 2 0 % 64,3) else (65533,1)) else
 if l.getD 0 0 / 8=30/\1<l.length/\l.getD 1 0 / 64=2/\2<l.length/\l.getD 2 0 / 64=2/\3<l.length/\l.getD 3 0 / 64=2 then
  (if 65536<=l.getD 0 0 % 8 * 262144+l.getD 1 0 % 64 * 4096+l.getD 2 0 % 64 * 64+l.getD 3 0 % 64/\okc (l.getD 0 0 % 8 * 262144+l.getD 1 0 % 64 * 4096+l.getD 2 0 % 64 * 64+l.getD 3 0 % 64)=true then (l.getD 0 0 % 8 * 262144+l.getD 1 0 % 64 * 4096+l.getD 2 0 % 64 * 64+l.getD 3 0 % 64,4) else (65533,1)) else
 (65533,1)
def surr (l:List Nat):Nat×Nat:=
 if l.length<3∨l.getD 0 0≠237∨l.getD 1 0 / 32≠5∨l.getD 2 0 / 64≠2 then (0,0) else (55296+l.getD 1 0 % 32 * 64+l.getD 2 0 % 64,3)
def dec (l:List Nat):Nat×Nat:=if (goD l).1=65533/\(goD l).2<=1 then surr l else goD l

theorem Qa (c:Nat):okc c=true↔(c<55296∨(57343<c/\c<=1114111)):=by simp[okc]

theorem E_len (c:Nat):1<=(E c).length/\(E c).length<=4:=by
 unfold E;repeat' split
 all_goals simp

theorem goD_E (c:Nat) (r:List Nat) (hc:c<=1114111) (hs: ¬(55296<=c/\c<=57343)):goD (E c++r)=(c,(E c).length):=by
 unfold E
 by_cases h1:c<128
 ·simp[h1,goD]
 by_cases h2:c<2048
 ·rw[if_neg h1,if_pos h2]
  simp only[goD,List.getD_cons_zero,List.getD_cons_succ,List.cons_append,List.nil_append,List.length_cons,List.length_nil,Qa]
  repeat' split
  all_goals first|(exfalso;omega)|(refine Prod.ext ?_ ?_<;>dsimp only<;>omega)
 by_cases h3:c<65536
 ·rw[if_neg h1,if_neg h2,if_pos h3]
  simp only[goD,List.getD_cons_zero,List.getD_cons_succ,List.cons_append,List.nil_append,List.length_cons,List.length_nil,Qa]
  repeat' split
  all_goals first|(exfalso;omega)|(refine Prod.ext ?_ ?_<;>dsimp only<;>omega)
 ·rw[if_neg h1,if_neg h2,if_neg h3]
  simp only[goD,List.getD_cons_zero,List.getD_cons_succ,List.cons_append,List.nil_append,List.length_cons,List.length_nil,Qa]
  repeat' split
  all_goals first|(exfalso;omega)|(refine Prod.ext ?_ ?_<;>dsimp only<;>omega)

theorem goD_sur (c:Nat) (r:List Nat) (h0:55296<=c) (h1:c<=57343):goD (E c++r)=(65533,1)/\surr (E c++r)=(c,(E c).length):=by
 unfold E
 rw[if_neg (by omega),if_neg (by omega),if_pos (by omega)]
 constructor
 ·simp only[goD,List.getD_cons_zero,List.getD_cons_succ,List.cons_append,List.nil_append,List.length_cons,Qa]
  repeat' split
  all_goals first|(exfalso;omega)|rfl|(refine Prod.ext ?_ ?_<;>dsimp only<;>omega)
 ·simp only[surr,List.getD_cons_zero,List.getD_cons_succ,List.cons_append,List.nil_append,List.length_cons,List.length_nil]
  repeat' split
  all_goals first|(exfalso;omega)|(refine Prod.ext ?_ ?_<;>dsimp only<;>omega)

theorem dec_E (c:Nat) (r:List Nat) (hc:c<=1114111):dec (E c++r)=(c,(E c).length):=by
 unfold dec
 by_cases hs:55296<=c/\c<=57343
 ·obtain⟨h1,h2⟩:=goD_sur c r hs.1 hs.2
  rw[h1,h2];simp
 ·rw[goD_E c r hc hs,if_neg]
  rintro⟨h1,h2⟩
  simp only at h1 h2
  subst h1
  simp[E] at h2


theorem len1: ∀(l:List Nat),0<l.length-> ∃a t,l=a::t
 |a::t,_=>⟨a,t,rfl⟩
theorem len2: ∀(l:List Nat),1<l.length-> ∃a b t,l=a::b::t
 |a::b::t,_=>⟨a,b,t,rfl⟩
theorem len3: ∀(l:List Nat),2<l.length-> ∃a b c t,l=a::b::c::t
 |a::b::c::t,_=>⟨a,b,c,t,rfl⟩
theorem len4: ∀(l:List Nat),3<l.length-> ∃a b c d t,l=a::b::c::d::t
 |a::b::c::d::t,_=>⟨a,b,c,d,t,rfl⟩
theorem goD_cases (l:List Nat) (hb: ∀x∈l,x<256):((goD l).1=65533/\(goD l).2<=1)∨(∃b0 t,l=b0::t/\b0<128/\goD l=(b0,1))∨
  (∃b0 b1 t,l=b0::b1::t/\b0 / 32=6/\b1 / 64=2/\128<=b0 % 32 * 64+b1 % 64/\goD l=(b0 % 32 * 64+b1 % 64,2))∨
  (∃b0 b1 b2 t,l=b0::b1::b2::t/\b0 / 16=14/\b1 / 64=2/\b2 / 64=2/\2048<=b0 % 16 * 4096+b1 % 64 * 64+b2 % 64/\goD l=(b0 % 16 * 4096+b1 % 64 * 64+b2 % 64,3))∨
  (∃b0 b1 b2 b3 t,l=b0::b1::b2::b3::t/\b0 / 8=30/\b1 / 64=2/\b2 / 64=2/\b3 / 64=2/\65536<=b0 % 8 * 262144+b1 % 64 * 4096+b2 % 64 * 64+b3 % 64/\b0 % 8 * 262144+b1 % 64 * 4096+b2 % 64 * 64+b3 % 64<=1114111/\goD l=(b0 % 8 * 262144+b1 % 64 * 4096+b2 % 64 * 64+b3 % 64,4)):=by
 obtain⟨v,hv⟩: ∃v,goD l=v:=⟨_,rfl⟩
 rw[hv]
 unfold goD at hv
 repeat' split at hv
 all_goals subst hv
 all_goals first|(left;simp;done)|skip
 ·rename_i h0 h1
  right;left
  obtain⟨b0,t,rfl⟩:=len1 l (by omega)
  exact⟨b0,t,rfl,by simpa using h1,by simp⟩
 ·rename_i h0 h1 h2 h3
  right;right;left
  obtain⟨b0,b1,t,rfl⟩:=len2 l h2.2.1
  simp only[List.getD_cons_zero,List.getD_cons_succ] at h2 h3 ⊢;exact⟨b0,b1,t,rfl,h2.1,h2.2.2,h3,rfl⟩
 ·rename_i h0 h1 h2 h3 h4
  right;right;right;left
  obtain⟨b0,b1,b2,t,rfl⟩:=len3 l h3.2.2.2.1
  simp only[List.getD_cons_zero,List.getD_cons_succ] at h3 h4 ⊢;exact⟨b0,b1,b2,t,rfl,h3.1,h3.2.2.1,h3.2.2.2.2,h4.1,rfl⟩
 ·rename_i h0 h1 h2 h3 h4 h5
  right;right;right;right
  obtain⟨b0,b1,b2,b3,t,rfl⟩:=len4 l h4.2.2.2.2.2.1
  simp only[List.getD_cons_zero,List.getD_cons_succ,Qa] at h4 h5 ⊢;exact⟨b0,b1,b2,b3,t,rfl,h4.1,h4.2.2.1,h4.2.2.2.2.1,h4.2.2.2.2.2.2,h5.1,by omega,rfl⟩

theorem goD_inv (l:List Nat) (hb: ∀x∈l,x<256) (hne: ¬((goD l).1=65533/\(goD l).2<=1)):
  (goD l).1<=1114111/\l=E (goD l).1++l.drop (goD l).2/\(goD l).2=(E (goD l).1).length:=by
 rcases goD_cases l hb with h|⟨b0,t,hl,h1,hv⟩|⟨b0,b1,t,hl,h1,h2,h3,hv⟩|⟨b0,b1,b2,t,hl,h1,h2,h3,h4,hv⟩|⟨b0,b1,b2,b3,t,hl,h1,h2,h3,h4,h5,h6,hv⟩
 ·exact absurd h hne
 ·rw[hv];subst hl;simp[E,h1];omega
 ·rw[hv];subst hl
  simp only[E]
  rw[if_neg (by omega),if_pos (by omega)]
  refine⟨by omega, ?_,by simp⟩
  simp only[List.drop_succ_cons,List.drop_zero,List.cons_append,List.nil_append,List.cons.injEq,and_true]
  omega
 ·rw[hv];subst hl
  simp only[E]
  rw[if_neg (by omega),if_neg (by omega),if_pos (by omega)]
  refine⟨by omega, ?_,by simp⟩
  simp only[List.drop_succ_cons,List.drop_zero,List.cons_append,List.nil_append,List.cons.injEq,and_true]
  omega
 ·rw[hv];subst hl
  simp only[E]
  rw[if_neg (by omega),if_neg (by omega),if_neg (by omega)]
  refine⟨by omega, ?_,by simp⟩
  simp only[List.drop_succ_cons,List.drop_zero,List.cons_append,List.nil_append,List.cons.injEq,and_true]
  omega

theorem surr_inv (l:List Nat) (hn:(surr l).2≠0):
  (surr l).1<=1114111/\l=E (surr l).1++l.drop (surr l).2/\(surr l).2=(E (surr l).1).length:=by
 unfold surr at *
 by_cases h:l.length<3∨l.getD 0 0≠237∨l.getD 1 0 / 32≠5∨l.getD 2 0 / 64≠2
 ·rw[if_pos h] at hn;simp at hn
 ·rw[if_neg h]
  match l,h with
  | [],h=>simp at h
  | [_],h=>simp at h
  | [_,_],h=>simp at h
  |b0::b1::b2::t,h=>
   simp at h
   obtain⟨rfl,h1,h2⟩:=h
   simp only[List.getD_cons_zero,List.getD_cons_succ]
   have n1: ¬(55296+b1 % 32 * 64+b2 % 64<128):=by omega
   have n2: ¬(55296+b1 % 32 * 64+b2 % 64<2048):=by omega
   have n3:55296+b1 % 32 * 64+b2 % 64<65536:=by omega
   simp[E,n1,n2,n3];omega

theorem dec_inv (l:List Nat) (hb: ∀x∈l,x<256) (hn:(dec l).2≠0):
  (dec l).1<=1114111/\l=E (dec l).1++l.drop (dec l).2/\(dec l).2=(E (dec l).1).length:=by
 unfold dec at *
 split
 ·rename_i h;rw[if_pos h] at hn;exact surr_inv l hn
 ·rename_i h;exact goD_inv l hb h

def vF:Nat->Bool->List Nat->Bool
 |0,_,l=>l.isEmpty
 |f+1,h,l=>if l.isEmpty then true else if (dec l).2=0||(h && isLo (dec l).1) then false else vF f (isHi (dec l).1) (l.drop (dec l).2)

theorem vF_fuel: ∀(f g:Nat) (h:Bool) (l:List Nat),l.length<=f->l.length<=g->vF f h l=vF g h l:=by
 intro f
 induction f with
 |zero=>
  intro g h l h1 h2
  have:l= []:=List.eq_nil_of_length_eq_zero (by omega)
  subst this
  cases g<;>simp[vF]
 |succ f ih=>
  intro g h l h1 h2
  cases l with
  |nil=>cases g<;>simp[vF]
  |cons x t=>
   cases g with
   |zero=>simp at h2
   |succ g=>
    simp only[vF]
    split
    ·rfl
    ·split
     ·rfl
     ·rename_i hz
      have:(dec (x::t)).2≠0:=by intro e;simp[e] at hz
      apply ih<;>(simp only[List.length_drop,List.length_cons] at *;omega)

def valid (h:Bool) (l:List Nat):Bool:=vF l.length h l
theorem valid_step (h:Bool) (l:List Nat) (hne:l≠ []):valid h l=if (dec l).2=0||(h && isLo (dec l).1) then false else valid (isHi (dec l).1) (l.drop (dec l).2):=by
 cases l with
 |nil=>exact absurd rfl hne
 |cons x t=>
  unfold valid
  simp only[List.length_cons,vF,List.isEmpty_cons,Bool.false_eq_true,if_false]
  split
  ·rfl
  ·rename_i hz
   have:(dec (x::t)).2≠0:=by intro e;simp[e] at hz
   apply vF_fuel<;>(simp only[List.length_drop,List.length_cons];omega)

def small (cs:List Nat):Prop:= ∀c∈cs,c<=1114111
def Wtf (l cs:List Nat):Prop:=l=cs.flatMap E/\small cs/\Ji false cs=true

theorem valid_of: ∀(cs:List Nat) (h:Bool),small cs->Ji h cs=true->valid h (cs.flatMap E)=true:=by
 intro cs
 induction cs with
 |nil=>intro h _ _;rfl
 |cons c r ih=>
  intro h hs hp
  have hc:c<=1114111:=hs c (by simp)
  have hr:small r:=fun x hx=>hs x (by simp[hx])
  simp only[Ji,Bool.and_eq_true,Bool.not_eq_true'] at hp
  have hE:=E_len c
  rw[List.flatMap_cons,valid_step,dec_E c _ hc]
  ·have:(E c).length≠0:=by omega
   simp[this,hp.1,ih _ hr hp.2]
  ·intro e;have:=congrArg List.length e;simp at this;simp[this.1] at hE

theorem Zdv: ∀(n:Nat) (h:Bool) (l:List Nat),l.length<=n->(∀x∈l,x<256)->valid h l=true-> ∃cs,l=cs.flatMap E/\small cs/\Ji h cs=true:=by
 intro n
 induction n with
 |zero=>
  intro h l hl _ _
  have:l= []:=List.eq_nil_of_length_eq_zero (by omega)
  subst this
  exact⟨[],rfl,by intro c hc;simp at hc,rfl⟩
 |succ n ih=>
  intro h l hl hb hv
  by_cases hne:l= []
  ·subst hne;exact⟨[],rfl,by intro c hc;simp at hc,rfl⟩
  ·rw[valid_step h l hne] at hv
   split at hv
   ·simp at hv
   ·rename_i hz
    have hz1:(dec l).2≠0:=by intro e;simp[e] at hz
    have hz2:(h && isLo (dec l).1)=false:=by
     cases hh:(h && isLo (dec l).1) with
     |false=>rfl
     |true=>rw[hh] at hz;simp at hz
    obtain⟨d1,d2,d3⟩:=dec_inv l hb hz1
    have hl0:0<l.length:=List.length_pos_iff.2 hne
    obtain⟨cs,e,s,p⟩:=ih (isHi (dec l).1) (l.drop (dec l).2) (by simp;omega) (fun x hx=>hb x (List.mem_of_mem_drop hx)) hv
    refine⟨(dec l).1::cs, ?_, ?_, ?_⟩
    ·rw[List.flatMap_cons,←e];exact d2
    ·intro c hc
     simp only[List.mem_cons] at hc
     rcases hc with rfl|hc
     ·exact d1
     ·exact s c hc
    ·simp[Ji,hz2,p]

theorem Zj (l:List Nat) (hb: ∀x∈l,x<256):valid false l=true↔ ∃cs,Wtf l cs:=
 ⟨fun h=>Zdv l.length false l (Nat.le_refl _) hb h,fun ⟨cs,e,s,p⟩=>by rw[e];exact valid_of cs false s p⟩

def tailN:Nat->List Nat->Nat->Option Nat
 |0,_,c=>some c
 |n+1,l,c=>match l with
  | []=>none
  |b::t=>if b<128∨191<b then none else tailN n t (64 * c+(b - 128))
def head (b:Nat):Option (Nat×Nat):=
 if b<128 then some (0,b) else if 192<=b/\b<224 then some (1,b - 192) else if 224<=b/\b<240 then some (2,b - 224) else if 240<=b/\b<248 then some (3,b - 240) else none
def rd1 (l:List Nat):Option (Nat×Nat):=
 match l with
 | []=>none
 |b::t=>match head b with
  |none=>none
  |some (n,base)=>match tailN n t 0 with
   |none=>none
   |some c=>if 1114111<c+base * 64^n then none else some (c+base * 64^n,n)
def rdF:Nat->List Nat->Option (List Nat)
 |0,l=>if l.isEmpty then some [] else none
 |f+1,l=>if l.isEmpty then some [] else match rd1 l with
  |none=>none
  |some (c,n)=>(rdF f (l.drop (1+n))).map (U c++ ·)
theorem rdF_fuel: ∀(f g:Nat) (l:List Nat),l.length<=f->l.length<=g->rdF f l=rdF g l:=by
 intro f
 induction f with
 |zero=>
  intro g l h1 h2
  have:l= []:=List.eq_nil_of_length_eq_zero (by omega)
  subst this
  cases g<;>simp[rdF]
 |succ f ih=>
  intro g l h1 h2
  cases l with
  |nil=>cases g<;>simp[rdF]
  |cons x t=>
   cases g with
   |zero=>simp at h2
   |succ g=>
    simp only[rdF]
    split
    ·rfl
    ·cases rd1 (x::t) with
     |none=>rfl
     |some p=>
      obtain⟨c,n⟩:=p
      simp only
      rw[ih g]
      all_goals (simp only[List.length_drop,List.length_cons] at *;omega)
def rd (l:List Nat):Option (List Nat):=rdF l.length l
theorem rd_nil:rd []=some []:=rfl
theorem rd_step (l:List Nat) (hne:l≠ []):rd l=match rd1 l with
  |none=>none
  |some (c,n)=>(rd (l.drop (1+n))).map (U c++ ·):=by
 cases l with
 |nil=>exact absurd rfl hne
 |cons x t=>
  unfold rd
  simp only[List.length_cons,rdF,List.isEmpty_cons,Bool.false_eq_true,if_false]
  cases rd1 (x::t) with
  |none=>rfl
  |some p=>
   obtain⟨c,n⟩:=p
   simp only
   rw[rdF_fuel t.length]
   all_goals (simp only[List.length_drop,List.length_cons];omega)
theorem rd1_E (c:Nat) (r:List Nat) (hc:c<=1114111): ∃n,rd1 (E c++r)=some (c,n)/\1+n=(E c).length:=by
 unfold E
 by_cases h1:c<128
 ·refine⟨0, ?_,by simp[h1]⟩
  simp[h1,rd1,head,tailN];omega
 by_cases h2:c<2048
 ·rw[if_neg h1,if_pos h2]
  refine⟨1, ?_,by simp⟩
  simp only[rd1,head,List.cons_append,List.nil_append]
  rw[if_neg (by omega),if_pos (by omega)]
  simp only[tailN]
  rw[if_neg (by omega)]
  simp only[Nat.pow_one]
  rw[if_neg (by omega)]
  refine congrArg some (Prod.ext ?_ rfl);dsimp only;omega
 by_cases h3:c<65536
 ·rw[if_neg h1,if_neg h2,if_pos h3]
  refine⟨2, ?_,by simp⟩
  simp only[rd1,head,List.cons_append,List.nil_append]
  rw[if_neg (by omega),if_neg (by omega),if_pos (by omega)]
  simp only[tailN]
  rw[if_neg (by omega),if_neg (by omega)]
  simp only[Nat.reducePow]
  rw[if_neg (by omega)]
  refine congrArg some (Prod.ext ?_ rfl);dsimp only;omega
 ·rw[if_neg h1,if_neg h2,if_neg h3]
  refine⟨3, ?_,by simp⟩
  simp only[rd1,head,List.cons_append,List.nil_append]
  rw[if_neg (by omega),if_neg (by omega),if_neg (by omega),if_pos (by omega)]
  simp only[tailN]
  rw[if_neg (by omega),if_neg (by omega),if_neg (by omega)]
  simp only[Nat.reducePow]
  rw[if_neg (by omega)]
  refine congrArg some (Prod.ext ?_ rfl);dsimp only;omega
theorem rd_flat: ∀(cs:List Nat),small cs->rd (cs.flatMap E)=some (cs.flatMap U):=by
 intro cs
 induction cs with
 |nil=>intro _;rfl
 |cons c r ih=>
  intro hs
  obtain⟨n,h1,h2⟩:=rd1_E c (r.flatMap E) (hs c (by simp))
  have hE:=E_len c
  rw[List.flatMap_cons,rd_step,h1]
  ·simp only[h2,List.drop_left,ih (fun x hx=>hs x (by simp[hx])),List.flatMap_cons,Option.map_some]
  ·intro e;have:=congrArg List.length e;simp at this;simp[this.1] at hE

theorem U_small (c:Nat) (hc:c<=1114111): ∀u∈U c,u<65536:=by
 unfold U;split
 ·intro u hu;simp at hu;omega
 ·intro u hu;simp at hu;omega
theorem ZdG (l:List Nat) (c n:Nat) (h:rd1 l=some (c,n)):c<=1114111:=by
 unfold rd1 at h
 split at h
 ·simp at h
 ·split at h
  ·simp at h
  ·split at h
   ·simp at h
   ·split at h
    ·simp at h
    ·simp only[Option.some.injEq,Prod.mk.injEq] at h;omega
theorem rd_small: ∀(n:Nat) (l u:List Nat),l.length<=n->rd l=some u-> ∀x∈u,x<65536:=by
 intro n
 induction n with
 |zero=>
  intro l u hl h
  have:l= []:=List.eq_nil_of_length_eq_zero (by omega)
  subst this
  rw[rd_nil] at h;cases h;intro x hx;simp at hx
 |succ n ih=>
  intro l u hl h
  by_cases hne:l= []
  ·subst hne;rw[rd_nil] at h;cases h;intro x hx;simp at hx
  ·rw[rd_step l hne] at h
   have hl0:0<l.length:=List.length_pos_iff.2 hne
   cases h1:rd1 l with
   |none=>rw[h1] at h;simp at h
   |some p=>
    obtain⟨c,k⟩:=p
    rw[h1] at h
    simp only[Option.map_eq_some_iff] at h
    obtain⟨v,hv,rfl⟩:=h
    intro x hx
    rw[List.mem_append] at hx
    rcases hx with hx|hx
    ·exact U_small c (ZdG l c k h1) x hx
    ·exact ih _ v (by simp;omega) hv x hx

def row:List Nat->List Nat
 | []=> []
 | [a]=> [a]
 |a::b::r=>if isHi a && isLo b then (65536+1024 * (a - 55296)+(b - 56320))::row r else a::row (b::r)
def ofL (l:List Nat):List Nat:=(row l).flatMap E
theorem Xl (c:Nat):isHi c=true↔55296<=c/\c<56320:=by simp[isHi]
theorem Qi (c:Nat):isLo c=true↔56320<=c/\c<=57343:=by simp[isLo]
theorem Za9 (a:Nat) (t:List Nat) (h: ∀b r,t=b::r->(isHi a && isLo b)=false):row (a::t)=a::row t:=by
 cases t with
 |nil=>rfl
 |cons b r=>simp[row,h b r rfl]
theorem ZbJ (c:Nat) (r:List Nat) (hs:small r) (hp:Ji (isHi c) r=true): ∀b t,r.flatMap U=b::t->(isHi c && isLo b)=false:=by
 intro b t e
 cases r with
 |nil=>simp at e
 |cons d q=>
  have hd:d<=1114111:=hs d (by simp)
  simp only[Ji,Bool.and_eq_true,Bool.not_eq_true'] at hp
  rw[List.flatMap_cons] at e
  unfold U at e
  split at e
  ·simp only[List.cons_append,List.nil_append,List.cons.injEq] at e
   rw[←e.1];exact hp.1
  ·simp only[List.cons_append,List.nil_append,List.cons.injEq] at e
   rw[Bool.and_eq_false_iff];right
   cases h:isLo b with
   |false=>rfl
   |true=>rw[Qi] at h;omega
theorem row_flat: ∀(cs:List Nat) (h:Bool),small cs->Ji h cs=true->row (cs.flatMap U)=cs:=by
 intro cs
 induction cs with
 |nil=>intro _ _ _;rfl
 |cons c r ih=>
  intro h hs hp
  have hc:c<=1114111:=hs c (by simp)
  have hr:small r:=fun x hx=>hs x (by simp[hx])
  simp only[Ji,Bool.and_eq_true,Bool.not_eq_true'] at hp
  rw[List.flatMap_cons]
  by_cases h1:c<65536
  ·have e:U c= [c]:=by simp[U,h1]
   rw[e,List.singleton_append,Za9,ih _ hr hp.2]
   exact ZbJ c r hr hp.2
  ·have e:U c= [55296+(c - 65536) / 1024,56320+(c - 65536) % 1024]:=by simp[U,h1]
   rw[e]
   have a1:isHi (55296+(c - 65536) / 1024)=true:=(Xl _).2 (by omega)
   have a2:isLo (56320+(c - 65536) % 1024)=true:=(Qi _).2 (by omega)
   have a3:65536+1024 * (55296+(c - 65536) / 1024 - 55296)+(56320+(c - 65536) % 1024 - 56320)=c:=by omega
   simp only[List.cons_append,List.nil_append,row,a1,a2,Bool.and_self,if_true,a3,ih _ hr hp.2]
theorem ZdE: ∀(n:Nat) (l:List Nat),l.length<=n->(∀x∈l,x<65536)->small (row l)/\(row l).flatMap U=l/\
  (∀h:Bool,(∀b t,l=b::t->(h && isLo b)=false)->Ji h (row l)=true):=by
 intro n
 induction n with
 |zero=>
  intro l hl _
  have:l= []:=List.eq_nil_of_length_eq_zero (by omega)
  subst this
  exact⟨by intro c hc;simp[row] at hc,rfl,fun _ _=>rfl⟩
 |succ n ih=>
  intro l hl hb
  match l,hl,hb with
  | [],_,_=>exact⟨by intro c hc;simp[row] at hc,rfl,fun _ _=>rfl⟩
  | [a],_,hb=>
   have ha:=hb a (by simp)
   refine⟨?_, ?_, ?_⟩
   ·intro c hc;simp[row] at hc;omega
   ·simp[row,U,ha]
   ·intro h hh;simp[row,Ji,hh a [] rfl]
  |a::b::r,hl,hb=>
   have ha:=hb a (by simp)
   have hb':=hb b (by simp)
   by_cases hp:(isHi a && isLo b)=true
   ·obtain⟨i1,i2,i3⟩:=ih r (by simp at hl;omega) (fun x hx=>hb x (by simp[hx]))
    have e:row (a::b::r)=(65536+1024 * (a - 55296)+(b - 56320))::row r:=by simp[row,hp]
    rw[Bool.and_eq_true,Xl,Qi] at hp
    rw[e]
    refine⟨?_, ?_, ?_⟩
    ·intro c hc;simp only[List.mem_cons] at hc
     rcases hc with hc|hc
     ·omega
     ·exact i1 c hc
    ·rw[List.flatMap_cons,i2]
     have:U (65536+1024 * (a - 55296)+(b - 56320))= [a,b]:=by
      unfold U;rw[if_neg (by omega)]
      simp only[List.cons.injEq,and_true];omega
     rw[this,List.cons_append,List.cons_append,List.nil_append]
    ·intro h _
     have l1:isLo (65536+1024 * (a - 55296)+(b - 56320))=false:=by
      cases hq:isLo (65536+1024 * (a - 55296)+(b - 56320)) with
      |false=>rfl
      |true=>rw[Qi] at hq;omega
     have l2:isHi (65536+1024 * (a - 55296)+(b - 56320))=false:=by
      cases hq:isHi (65536+1024 * (a - 55296)+(b - 56320)) with
      |false=>rfl
      |true=>rw[Xl] at hq;omega
     simp only[Ji,l1,l2,Bool.and_false,Bool.not_false,Bool.true_and]
     exact i3 false (by simp)
   ·have hp':(isHi a && isLo b)=false:=by simpa using hp
    obtain⟨i1,i2,i3⟩:=ih (b::r) (by simp at hl ⊢;omega) (fun x hx=>hb x (by simp at hx ⊢;right;exact hx))
    have e:row (a::b::r)=a::row (b::r):=by simp only[row,hp',Bool.false_eq_true,if_false]
    rw[e]
    refine⟨?_, ?_, ?_⟩
    ·intro c hc;simp only[List.mem_cons] at hc
     rcases hc with rfl|hc
     ·omega
     ·exact i1 c hc
    ·rw[List.flatMap_cons,i2];simp[U,ha]
    ·intro h hh
     simp only[Ji,hh a (b::r) rfl,Bool.not_false,Bool.true_and]
     exact i3 _ (fun b' t' e'=>by simp only[List.cons.injEq] at e';rw[←e'.1];exact hp')

theorem valid_ref (l:List Nat) (hb: ∀x∈l,x<256):
  (valid false l=true/\ ∃u,rd l=some u/\ofL u=l/\ ∃cs,Wtf l cs/\u=cs.flatMap U)∨(valid false l=false/\ ∀u,rd l=some u->ofL u≠l):=by
 cases hv:valid false l with
 |true=>
  left
  obtain⟨cs,e,s,p⟩:=(Zj l hb).1 hv
  refine⟨rfl,cs.flatMap U,by rw[e];exact rd_flat cs s, ?_,cs,⟨e,s,p⟩,rfl⟩
  unfold ofL
  rw[row_flat cs false s p,←e]
 |false=>
  right
  refine⟨rfl,fun u hu he=> ?_⟩
  have hs:=rd_small l.length l u (Nat.le_refl _) hu
  obtain⟨r1,r2,r3⟩:=ZdE u.length u (Nat.le_refl _) hs
  have:valid false l=true:=(Zj l hb).2 ⟨row u,he.symm,r1,r3 false (by simp)⟩
  rw[hv] at this;cases this

end M
