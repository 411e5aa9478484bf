import PyProof.Rows.All
import Wide.All
import OpenK.AllK
import Wide.FinOn
import PyProof.EqAt
import PyProof.EqKinds
import PyProof.TupleCall
import KE.BitLaws
import PyProof.ExcArgs
import PyProof.ExcInit
import OpenK.KMake
import OpenK.KWalk
import Open.SpecLaws
import KE.OsHead
import KE.OsGo
import PySem.Challenge.RW_truthcircuitsdesk_s01_answers
set_option Elab.async false
set_option linter.all false
set_option maxRecDepth 100000
set_option maxHeartbeats 4000000
section
local macro_rules|`(command|lay_the_names)=>do
 let mut a:=#[]
 let mut l:=[`PySem.Challenge.pw_truthcircuitsdesk_s01_answers,`Hq.view_1]
 for i in [1:850] do for k in ["o","tree","sts","heap"] do l:=.str `Hq s!"{k}_{i}"::l
 for n in l do
  let x:=Lean.mkIdent (.str `PySem.W.Fast s!"tw{n.hash}")
  a:=a.push (<-`(theorem $x:ident : True:=trivial))
 return Lean.mkNullNode a
lay_the_names
local macro_rules|`(tactic|o_law)=>`(tactic|skip)
local macro_rules|`(tactic|k_head)=>`(tactic|k_headS)
local macro_rules|`(tactic|w_witness2)=>`(tactic|exact ⟨[.list [.int 5]],by decide +kernel,by decide +kernel⟩)
set_option maxHeartbeats 0 in
open_top Hq for PySem.Challenge.rw_truthcircuitsdesk_s01_answers
end
namespace Mth
open VaprbBase Vaprbi
open Vaprbg (Store Node nodeOf build)
def pw (n:Nat):Nat:=2^(2^n)
theorem lE (n:Nat):0<pw n:=Nat.two_pow_pos _
theorem sW (n:Nat):pw (n+1)=pw n*pw n:=by
 unfold pw;rw[Nat.pow_succ,Nat.mul_comm (2^n) 2,Nat.two_mul,Nat.pow_add]
def tab:Nat->(List Bool->Bool)->Nat
 | 0,g=>if g []=true then 1 else 0
 | n+1,g=>tab n (λr=>g (false::r))+pw n*tab n (λr=>g (true::r))
theorem rS:∀ (n:Nat) (g:List Bool->Bool),tab n g<pw n
 | 0,g=>by
  show (if g []=true then 1 else 0)<2^(2^0)
  split<;>decide
 | n+1,g=>by
  have h0:=rS n (λr=>g (false::r));have h1:=rS n (λr=>g (true::r));rw[sW];show tab n _+pw n*tab n _<_
  calc tab n (λr=>g (false::r))+pw n*tab n (λr=>g (true::r))
    < pw n+pw n*tab n (λr=>g (true::r)):=Nat.add_lt_add_right h0 _
   _=pw n*(tab n (λr=>g (true::r))+1):=by rw[Nat.mul_add,Nat.mul_one,Nat.add_comm]
   _<=pw n*pw n:=Nat.mul_le_mul_left _ h1
theorem pO {n a b:Nat}(h:a<pw n):(a+pw n*b)%pw n=a:=by
 rw[Nat.add_mul_mod_self_left,Nat.mod_eq_of_lt h]
theorem pM {n a b:Nat}(h:a<pw n):(a+pw n*b) / pw n=b:=by
 rw[Nat.add_mul_div_left _ _ (lE n),Nat.div_eq_of_lt h,Nat.zero_add]
theorem pN {n a b c d:Nat}(ha:a<pw n)(hc:c<pw n)(e:a+pw n*b=c+pw n*d):a=c/\b=d:=by
 constructor
 ·have:=congrArg (· % pw n) e
  simpa [pO ha,pO hc] using this
 ·have:=congrArg (· / pw n) e
  simpa [pM ha,pM hc] using this
def mkT:Nat->Nat->Nat->Circuit->Circuit×Nat
 | 0,_,t,c=>put c (.const (if t=1 then Frac.one else Frac.zero))
 | n+1,v,t,c=>
  if t / pw n=t%pw n then unasked v (mkT n (v+1) (t%pw n) c)
  else
   let a:=mkT n (v+1) (t%pw n) c
   let b:=mkT n (v+1) (t / pw n) a.1
   choice v b.1 a.2 b.2
def Rep (s:Store):Nat->Nat->Nat->Nat->Prop
 | 0,_,d,t=>d=t/\t<2
 | n+1,v,d,t=>(askedAt s v d=none/\∃ t0,t0<pw n/\t=t0+pw n*t0/\Rep s n (v+1) d t0)∨
   ∃ m t0 t1,askedAt s v d=some m/\t0<pw n/\t1<pw n/\t0≠t1/\t=t0+pw n*t1/\Rep s n (v+1) m.lo t0/\Rep s n (v+1) m.hi t1
theorem t9 {s:Store}:∀ {n v d t:Nat} {c:Circuit},Rep s n v d t->wire s n v d c=mkT n v t c
 | 0,v,d,t,c,⟨e,_⟩=>by subst e;rfl
 | n+1,v,d,t,c,.inl ⟨e,t0,l0,et,r⟩=>by
  subst et;unfold wire mkT;rw[e,pM l0,pO l0,if_pos rfl];show unasked v _=_;rw[t9 r]
 | n+1,v,d,t,c,.inr ⟨m,t0,t1,e,l0,l1,ne,et,r0,r1⟩=>by
  subst et;unfold wire mkT;rw[e,pM l0,pO l0,if_neg (λq=>ne q.symm)];show (let a:=wire s n (v+1) m.lo c;let b:=wire s n (v+1) m.hi a.1;choice v b.1 a.2 b.2)=_;simp only[t9 r0,t9 r1]
theorem sV {s:Store}{d:Nat}{m:Node}(h:nodeOf s d=some m):2<=d/\d<s.length+2/\s[d-2]?=some m:=by
 unfold nodeOf at h;split at h
 ·cases h
 ·have:=(List.getElem?_eq_some_iff.mp h).1
  exact ⟨by lia,by lia,h⟩
theorem h9 {s:Store}{v d:Nat}{m:Node}(h:askedAt s v d=some m):nodeOf s d=some m/\m.var=v:=by
 unfold askedAt at h
 cases q:nodeOf s d with
 | none=>rw[q] at h;cases h
 | some x=>
  rw[q] at h;have h:(if x.var=v then some x else none)=some m:=h;split at h
  ·rename_i e;cases h;exact ⟨rfl,e⟩
  ·cases h
theorem Rep.valid {s:Store}:∀ {n v d t:Nat},Rep s n v d t->d<s.length+2
 | 0,_,_,_,⟨e,h⟩=>by lia
 | n+1,v,d,t,.inl ⟨_,t0,_,_,r⟩=>Rep.valid r
 | n+1,v,d,t,.inr ⟨m,_,_,e,_⟩=>(sV (h9 e).1).2.1
theorem Rep.lt {s:Store}:∀ {n v d t:Nat},Rep s n v d t->t<pw n
 | 0,_,_,_,⟨e,h⟩=>by show _<2^(2^0);exact h
 | n+1,v,d,t,h=>by
  have key:∀ a b,a<pw n->b<pw n->a+pw n*b<pw (n+1):=λa b ha hb=>by
   rw[sW]
   calc a+pw n*b<pw n+pw n*b:=Nat.add_lt_add_right ha _
    _=pw n*(b+1):=by rw[Nat.mul_add,Nat.mul_one,Nat.add_comm]
    _<=pw n*pw n:=Nat.mul_le_mul_left _ hb
  rcases h with ⟨_,t0,l0,e,_⟩|⟨m,t0,t1,_,l0,l1,_,e,_⟩
  ·rw[e];exact key _ _ l0 l0
  ·rw[e];exact key _ _ l0 l1
theorem DR {s e:Store}{d:Nat}(h:d<s.length+2):nodeOf (s++e) d=nodeOf s d:=by
 unfold nodeOf
 split
 ·rfl
 ·rw[List.getElem?_append_left (by lia)]
theorem wC {s e:Store}{v d:Nat}(h:d<s.length+2):askedAt (s++e) v d=askedAt s v d:=by
 unfold askedAt;rw[DR h]
theorem Rep.app {s e:Store}:∀ {n v d t:Nat},Rep s n v d t->Rep (s++e) n v d t
 | 0,_,_,_,h=>h
 | n+1,v,d,t,h=>by
  have hv:=Rep.valid h
  rcases h with ⟨q,t0,l0,et,r⟩|⟨m,t0,t1,q,l0,l1,ne,et,r0,r1⟩
  ·exact .inl ⟨by rw[wC hv];exact q,t0,l0,et,Rep.app r⟩
  ·exact .inr ⟨m,t0,t1,by rw[wC hv];exact q,l0,l1,ne,et,Rep.app r0,Rep.app r1⟩
theorem Rep.fn {s:Store}:∀ {n v d t t':Nat},Rep s n v d t->Rep s n v d t'->t=t'
 | 0,_,_,_,_,⟨e,_⟩,⟨e',_⟩=>e.symm.trans e'
 | n+1,v,d,t,t',h,h'=>by
  rcases h with ⟨q,t0,l0,et,r⟩|⟨m,t0,t1,q,l0,l1,ne,et,r0,r1⟩
  ·rcases h' with ⟨q',t0',l0',et',r'⟩|⟨m',t0',t1',q',l0',l1',ne',et',r0',r1'⟩
   ·rw[et,et',Rep.fn r r']
   ·rw[q] at q';cases q'
  ·rcases h' with ⟨q',t0',l0',et',r'⟩|⟨m',t0',t1',q',l0',l1',ne',et',r0',r1'⟩
   ·rw[q] at q';cases q'
   ·rw[q] at q';cases q';rw[et,et',Rep.fn r0 r0',Rep.fn r1 r1']
theorem Rep.uniq {s:Store}(nd:s.Nodup):∀ {n v d d' t:Nat},Rep s n v d t->Rep s n v d' t->d=d'
 | 0,_,_,_,_,⟨e,_⟩,⟨e',_⟩=>e.trans e'.symm
 | n+1,v,d,d',t,h,h'=>by
  rcases h with ⟨q,t0,l0,et,r⟩|⟨m,t0,t1,q,l0,l1,ne,et,r0,r1⟩
  ·rcases h' with ⟨q',t0',l0',et',r'⟩|⟨m',t0',t1',q',l0',l1',ne',et',r0',r1'⟩
   ·obtain ⟨e,_⟩:=pN l0 l0' (et.symm.trans et');subst e;exact Rep.uniq nd r r'
   ·obtain ⟨e0,e1⟩:=pN l0 l0' (et.symm.trans et');exact absurd (e0.symm.trans e1) ne'
  ·rcases h' with ⟨q',t0',l0',et',r'⟩|⟨m',t0',t1',q',l0',l1',ne',et',r0',r1'⟩
   ·obtain ⟨e0,e1⟩:=pN l0 l0' (et.symm.trans et');exact absurd (e0.trans e1.symm) ne
   ·obtain ⟨e0,e1⟩:=pN l0 l0' (et.symm.trans et');subst e0 e1;have a:=Rep.uniq nd r0 r0';have b:=Rep.uniq nd r1 r1';obtain ⟨p1,p2⟩:=h9 q;obtain ⟨p1',p2'⟩:=h9 q'
    have em:m=m':=by
     cases m;cases m';simp only at a b p2 p2';subst a b p2 p2';rfl
    subst em;obtain ⟨u1,_,u3⟩:=sV p1;obtain ⟨u1',_,u3'⟩:=sV p1';obtain ⟨k1,k2⟩:=List.getElem?_eq_some_iff.mp u3;obtain ⟨k1',k2'⟩:=List.getElem?_eq_some_iff.mp u3'
    have:=(List.getElem_inj nd).mp (k2.trans k2'.symm)
    lia
theorem Rep.above {s:Store}:∀ {n v d t:Nat} {m:Node},Rep s n v d t->nodeOf s d=some m->v<=m.var
 | 0,v,d,t,m,⟨e,h⟩,q=>by
  have:=(sV q).1
  lia
 | n+1,v,d,t,m,h,q=>by
  rcases h with ⟨z,t0,l0,et,r⟩|⟨m',t0,t1,z,_⟩
  ·have:=Rep.above r q
   lia
  ·obtain ⟨p1,p2⟩:=h9 z;rw[q] at p1;cases p1;lia
theorem Rep.notAsked {s:Store}{n v d t:Nat}(r:Rep s n (v+1) d t):askedAt s v d=none:=by
 cases q:askedAt s v d with
 | none=>rfl
 | some m=>
  obtain ⟨p1,p2⟩:=h9 q
  have:=Rep.above r p1
  lia
theorem Q8 {s:Store}(nd:s.Nodup){n v lo hi t0 t1:Nat}(r0:Rep s n (v+1) lo t0)(r1:Rep s n (v+1) hi t1):
  ∃ e,(Vaprbg.put s ⟨v,lo,hi⟩).1=s++e/\(s++e).Nodup/\Rep (s++e) (n+1) v (Vaprbg.put s ⟨v,lo,hi⟩).2 (t0+pw n*t1):=by
 by_cases h:lo=hi
 ·have e0:t0=t1:=by subst h;exact Rep.fn r0 r1
  subst e0;refine ⟨[],?_,by simpa using nd,?_⟩
  ·unfold Vaprbg.put;rw[if_pos h];simp
  ·unfold Vaprbg.put;rw[if_pos h];simp only[List.append_nil];exact .inl ⟨r0.notAsked,t0,r0.lt,rfl,r0⟩
 ·have ne:t0≠t1:=λe=>h (by subst e;exact Rep.uniq nd r0 r1);unfold Vaprbg.put;rw[if_neg (show ¬ (⟨v,lo,hi⟩:Node).lo=(⟨v,lo,hi⟩:Node).hi from h)]
  cases q:s.findIdx? λm=>m==(⟨v,lo,hi⟩:Node) with
  | some i=>
   obtain ⟨hi',p,_⟩:=List.findIdx?_eq_some_iff_getElem.mp q;have p:s[i]=⟨v,lo,hi⟩:=by simpa using p
   refine ⟨[],by simp,by simpa using nd,?_⟩;simp only[List.append_nil];refine .inr ⟨⟨v,lo,hi⟩,t0,t1,?_,r0.lt,r1.lt,ne,rfl,r0,r1⟩;unfold askedAt nodeOf;rw[if_neg (by lia),show i+2-2=i by lia,List.getElem?_eq_getElem hi',p];simp
  | none=>
   have nm:=List.findIdx?_eq_none_iff.mp q;refine ⟨[⟨v,lo,hi⟩],rfl,?_,?_⟩
   ·rw[List.nodup_append];refine ⟨nd,by simp,λa ha b hb e=>?_⟩;have hb':b=⟨v,lo,hi⟩:=by simpa using hb
    have:=nm a ha
    rw[e,hb'] at this;simp at this
   ·refine .inr ⟨⟨v,lo,hi⟩,t0,t1,?_,r0.lt,r1.lt,ne,rfl,r0.app,r1.app⟩;show askedAt (s++[⟨v,lo,hi⟩]) v (s.length+2)=_;unfold askedAt nodeOf;rw[if_neg (by lia),show s.length+2-2=s.length by lia,List.getElem?_append_right (Nat.le_refl _)];simp
theorem qO (f:List Bool->Bool):∀ (n:Nat) (as:List Bool) (s:Store),s.Nodup->
  ∃ e,(build f n as s).1=s++e/\(s++e).Nodup/\Rep (s++e) n as.length (build f n as s).2 (tab n λr=>f (as++r))
 | 0,as,s,nd=>by
  refine ⟨[],by simp[build],by simpa using nd,?_⟩;show (if f as=true then 1 else 0)=(if f (as++[])=true then 1 else 0)/\(if f (as++[])=true then 1 else 0)<2;rw[List.append_nil];refine ⟨rfl,?_⟩
  split<;>decide
 | n+1,as,s,nd=>by
  obtain ⟨e1,p1,n1,r1⟩:=qO f n (as++[false]) s nd;obtain ⟨e2,p2,n2,r2⟩:=qO f n (as++[true]) (s++e1) n1;rw[List.length_append,List.length_singleton] at r1 r2;obtain ⟨e3,p3,n3,r3⟩:=Q8 n2 (r1.app (e:=e2)) r2;have ef:(λr=>f (as++[false]++r))=λr=>f (as++false::r):=by funext r;simp
  have et:(λr=>f (as++[true]++r))=λr=>f (as++true::r):=by funext r;simp
  rw[ef,et] at r3;refine ⟨e1++e2++e3,?_,by simpa [List.append_assoc] using n3,?_⟩
  ·rw[build];show (Vaprbg.put (build f n (as++[true]) (build f n (as++[false]) s).1).1 ⟨as.length,_,(build f n (as++[true]) (build f n (as++[false]) s).1).2⟩).1=_;rw[p1,p2,p3];simp[List.append_assoc]
  ·have:(build f (n+1) as s).2=(Vaprbg.put (s++e1++e2) ⟨as.length,(build f n (as++[false]) s).2,(build f n (as++[true]) (s++e1)).2⟩).2:=by
    rw[build];show (Vaprbg.put (build f n (as++[true]) (build f n (as++[false]) s).1).1 ⟨as.length,_,(build f n (as++[true]) (build f n (as++[false]) s).1).2⟩).2=_;rw[p1,p2]
   rw[this];have e:s++(e1++e2++e3)=s++e1++e2++e3:=by simp[List.append_assoc]
   rw[e];exact r3
theorem xW (vs:List Vaprbg.Var)(f:Vaprbg.Form):
  circuitOf vs f=⟨(mkT vs.length 0 (tab vs.length λas=>f.val as) []).1,(mkT vs.length 0 (tab vs.length λas=>f.val as) []).2⟩:=by
 obtain ⟨e,p,nd,r⟩:=qO (λas=>f.val as) vs.length [] [] (by simp);unfold circuitOf;simp only[List.nil_append,List.length_nil] at p nd r;simp only[];rw[← p] at r;rw[t9 r]
end Mth
namespace Mth
open VaprbBase Vaprbi
structure fU (op:Circuit->Circuit×Nat)(c:Circuit):Prop where
 pre:c <+: (op c).1
 nd:(op c).1.Nodup
 lt:(op c).2<(op c).1.length
 again:∀ c',(op c).1 <+: c'->c'.Nodup->op c'=(c',(op c).2)
theorem fU.seq {op1:Circuit->Circuit×Nat}{op2:Nat->Circuit->Circuit×Nat}{c:Circuit}(h1:fU op1 c)(h2:fU (op2 (op1 c).2) (op1 c).1):fU (λc=>op2 (op1 c).2 (op1 c).1) c where
 pre:=h1.pre.trans h2.pre
 nd:=h2.nd
 lt:=h2.lt
 again:=λc' p n=>by
  have e:=h1.again c' (h2.pre.trans p) n;show op2 (op1 c').2 (op1 c').1=_;rw[e];exact h2.again c' p n
theorem eV {α:Type}{l l':List α}{i:Nat}(p:l <+: l')(h:i<l.length):l'[i]?=l[i]?:=by
 obtain ⟨e,rfl⟩:=p;rw[List.getElem?_append_left h]
theorem DJ {α:Type}[BEq α][LawfulBEq α]{l:List α}{x:α}{i:Nat}(nd:l.Nodup)(h:l[i]?=some x):l.findIdx? (λm=>m==x)=some i:=by
 obtain ⟨hi,e⟩:=List.getElem?_eq_some_iff.mp h;refine List.findIdx?_eq_some_iff_getElem.mpr ⟨hi,by simp[e],λj hj q=>?_⟩;have q:l[j]=x:=by simpa using q
 have:=(List.getElem_inj nd).mp (q.trans e.symm)
 lia
theorem yV {c:Circuit}{n:CNode}{i:Nat}(nd:c.Nodup)(h:c[i]?=some n):put c n=(c,i):=by
 unfold put;rw[DJ nd h]
theorem pQ {c:Circuit}{n:CNode}(h:n∉c):put c n=(c++[n],c.length):=by
 unfold put
 have:c.findIdx? (λm=>m==n)=none:=List.findIdx?_eq_none_iff.mpr λx hx=>by
  have:x≠n:=λe=>h (e▸hx)
  simpa using this
 rw[this]
theorem mG {c:Circuit}(nd:c.Nodup)(n:CNode):(put c n).1[(put c n).2]?=some n:=by
 by_cases h:n∈c
 ·obtain ⟨i,hi,e⟩:=List.getElem_of_mem h;have hi':c[i]?=some n:=by rw[List.getElem?_eq_getElem hi,e]
  rw[yV nd hi'];exact hi'
 ·rw[pQ h];show (c++[n])[c.length]?=_;simp
theorem bJ {c:Circuit}(nd:c.Nodup)(n:CNode):fU (λc=>put c n) c:=by
 have hg:=mG nd n;have hlt:(put c n).2<(put c n).1.length:=(List.getElem?_eq_some_iff.mp hg).1;refine ⟨?_,?_,hlt,λc' p nd'=>yV nd' (by rw[eV p hlt];exact hg)⟩
 ·by_cases h:n∈c
  ·obtain ⟨i,hi,e⟩:=List.getElem_of_mem h;have hi':c[i]?=some n:=by rw[List.getElem?_eq_getElem hi,e]
   show c <+: (put c n).1;rw[yV nd hi'];exact List.prefix_refl _
  ·show c <+: (put c n).1;rw[pQ h];exact List.prefix_append _ _
 ·by_cases h:n∈c
  ·obtain ⟨i,hi,e⟩:=List.getElem_of_mem h;have hi':c[i]?=some n:=by rw[List.getElem?_eq_getElem hi,e]
   show (put c n).1.Nodup;rw[yV nd hi'];exact nd
  ·show (put c n).1.Nodup;rw[pQ h];show (c++[n]).Nodup;rw[List.nodup_append];refine ⟨nd,by simp,λa ha b hb e=>?_⟩;have hb':b=n:=by simpa using hb
   exact h (by rw[← hb',← e];exact ha)
theorem sY {c:Circuit}{a:Nat}(nd:c.Nodup)(h:a<c.length):fU (λc=>(c,a)) c:=⟨List.prefix_refl _,nd,h,λ_ _ _=>rfl⟩
theorem bF {c c':Circuit}{a:Nat}{f:Frac}(p:c <+: c')(h:a<c.length):isConst c' a f=isConst c a f:=by
 unfold isConst;rw[eV p h]
theorem tL {c:Circuit}{a b:Nat}(nd:c.Nodup)(ha:a<c.length)(hb:b<c.length):fU (λc=>mkAdd c a b) c:=by
 have key:∀ (op:Circuit->Circuit×Nat),fU op c->(∀ c',c <+: c'->mkAdd c' a b=op c')->fU (λc=>mkAdd c a b) c:=λop h e=>by
  have e0:mkAdd c a b=op c:=e c (List.prefix_refl _)
  exact ⟨by show _ <+: (mkAdd c a b).1;rw[e0];exact h.pre,by show (mkAdd c a b).1.Nodup;rw[e0];exact h.nd,by show (mkAdd c a b).2<(mkAdd c a b).1.length;rw[e0];exact h.lt,
   λc' p n=>by
    have p:(mkAdd c a b).1 <+: c':=p;rw[e0] at p
    show mkAdd c' a b=(c',(mkAdd c a b).2)
    rw[e c' (h.pre.trans p),e0]
    exact h.again c' p n⟩
 by_cases h1:isConst c a Frac.zero=true
 ·exact key _ (sY (a:=b) nd hb) λc' p=>by unfold mkAdd;rw[bF p ha,if_pos h1]
 ·by_cases h2:isConst c b Frac.zero=true
  ·exact key _ (sY (a:=a) nd ha) λc' p=>by unfold mkAdd;rw[bF p ha,if_neg h1,bF p hb,if_pos h2]
  ·exact key _ (bJ nd _) λc' p=>by unfold mkAdd;rw[bF p ha,if_neg h1,bF p hb,if_neg h2]
theorem qW {c:Circuit}{a b:Nat}(nd:c.Nodup)(ha:a<c.length)(hb:b<c.length):fU (λc=>mkMul c a b) c:=by
 have key:∀ (op:Circuit->Circuit×Nat),fU op c->(∀ c',c <+: c'->mkMul c' a b=op c')->fU (λc=>mkMul c a b) c:=λop h e=>by
  have e0:mkMul c a b=op c:=e c (List.prefix_refl _)
  exact ⟨by show _ <+: (mkMul c a b).1;rw[e0];exact h.pre,by show (mkMul c a b).1.Nodup;rw[e0];exact h.nd,by show (mkMul c a b).2<(mkMul c a b).1.length;rw[e0];exact h.lt,
   λc' p n=>by
    have p:(mkMul c a b).1 <+: c':=p;rw[e0] at p
    show mkMul c' a b=(c',(mkMul c a b).2)
    rw[e c' (h.pre.trans p),e0]
    exact h.again c' p n⟩
 by_cases h0:isConst c a Frac.zero=true∨isConst c b Frac.zero=true
 ·exact key _ (bJ nd _) λc' p=>by unfold mkMul;rw[bF p ha,bF p hb,if_pos h0]
 ·by_cases h1:isConst c a Frac.one=true
  ·exact key _ (sY (a:=b) nd hb) λc' p=>by unfold mkMul;rw[bF p ha,bF p hb,if_neg h0,bF p ha,if_pos h1]
  ·by_cases h2:isConst c b Frac.one=true
   ·exact key _ (sY (a:=a) nd ha) λc' p=>by unfold mkMul;rw[bF p ha,bF p hb,if_neg h0,bF p ha,if_neg h1,bF p hb,if_pos h2]
   ·exact key _ (bJ nd _) λc' p=>by unfold mkMul;rw[bF p ha,bF p hb,if_neg h0,bF p ha,if_neg h1,bF p hb,if_neg h2]
theorem bK {α:Type}{l l':List α}{i:Nat}(p:l <+: l')(h:i<l.length):i<l'.length:=Nat.lt_of_lt_of_le h p.length_le
theorem F2 {op:Circuit->Circuit×Nat}{c:Circuit}(v:Nat)(h:fU op c):fU (λc=>unasked v (op c)) c:=
 fU.seq (op2:=λa c1=>mkMul (mkAdd (put (put c1 (.no v)).1 (.yes v)).1 (put c1 (.no v)).2 (put (put c1 (.no v)).1 (.yes v)).2).1 (mkAdd (put (put c1 (.no v)).1 (.yes v)).1 (put c1 (.no v)).2 (put (put c1 (.no v)).1 (.yes v)).2).2 a) h
  (fU.seq (op1:=λc1=>put c1 (.no v)) (op2:=λx c2=>mkMul (mkAdd (put c2 (.yes v)).1 x (put c2 (.yes v)).2).1 (mkAdd (put c2 (.yes v)).1 x (put c2 (.yes v)).2).2 (op c).2) (bJ h.nd _)
   (fU.seq (op1:=λc2=>put c2 (.yes v)) (op2:=λy c3=>mkMul (mkAdd c3 (put (op c).1 (.no v)).2 y).1 (mkAdd c3 (put (op c).1 (.no v)).2 y).2 (op c).2) (bJ (bJ h.nd _).nd _)
    (fU.seq (op1:=λc3=>mkAdd c3 (put (op c).1 (.no v)).2 (put (put (op c).1 (.no v)).1 (.yes v)).2) (op2:=λt c4=>mkMul c4 t (op c).2)
     (tL (bJ (bJ h.nd _).nd _).nd (bK (bJ (bJ h.nd _).nd _).pre (bJ h.nd _).lt) (bJ (bJ h.nd _).nd _).lt)
     (by
      have A:=tL (bJ (bJ h.nd (.no v)).nd (.yes v)).nd (bK (bJ (bJ h.nd (.no v)).nd (.yes v)).pre (bJ h.nd (.no v)).lt) (bJ (bJ h.nd (.no v)).nd (.yes v)).lt
      exact qW A.nd A.lt (bK A.pre (bK (bJ (bJ h.nd (.no v)).nd (.yes v)).pre (bK (bJ h.nd (.no v)).pre h.lt)))))))
theorem II {c:Circuit}{v lo hi:Nat}(nd:c.Nodup)(hl:lo<c.length)(hh:hi<c.length):fU (λc=>choice v c lo hi) c:=by
 have X:=bJ nd (.no v);have P:=qW X.nd X.lt (bK X.pre hl);have Y:=bJ P.nd (.yes v);have Q:=qW Y.nd Y.lt (bK Y.pre (bK P.pre (bK X.pre hh)));have S:=tL Q.nd (bK Q.pre (bK Y.pre P.lt)) Q.lt
 exact fU.seq (op1:=λc1=>put c1 (.no v)) (op2:=λx c2=>mkAdd (mkMul (put (mkMul c2 x lo).1 (.yes v)).1 (put (mkMul c2 x lo).1 (.yes v)).2 hi).1 (mkMul c2 x lo).2 (mkMul (put (mkMul c2 x lo).1 (.yes v)).1 (put (mkMul c2 x lo).1 (.yes v)).2 hi).2) X
  (fU.seq (op1:=λc2=>mkMul c2 (put c (.no v)).2 lo) (op2:=λp c3=>mkAdd (mkMul (put c3 (.yes v)).1 (put c3 (.yes v)).2 hi).1 p (mkMul (put c3 (.yes v)).1 (put c3 (.yes v)).2 hi).2) P
   (fU.seq (op1:=λc3=>put c3 (.yes v)) (op2:=λy c4=>mkAdd (mkMul c4 y hi).1 (mkMul (put c (.no v)).1 (put c (.no v)).2 lo).2 (mkMul c4 y hi).2) Y
    (fU.seq (op1:=λc4=>mkMul c4 (put (mkMul (put c (.no v)).1 (put c (.no v)).2 lo).1 (.yes v)).2 hi) (op2:=λq c5=>mkAdd c5 (mkMul (put c (.no v)).1 (put c (.no v)).2 lo).2 q) Q S)))
theorem nE:∀ (n v t:Nat) {c:Circuit},c.Nodup->fU (λc=>mkT n v t c) c
 | 0,v,t,c,nd=>bJ nd _
 | n+1,v,t,c,nd=>by
  by_cases h:t / pw n=t%pw n
  ·have:=F2 v (nE n (v+1) (t%pw n) nd)
   have e:(λc=>mkT (n+1) v t c)=λc=>unasked v (mkT n (v+1) (t%pw n) c):=by funext c';rw[mkT,if_pos h]
   rw[e];exact this
  ·have A:=nE n (v+1) (t%pw n) nd;have B:=nE n (v+1) (t / pw n) A.nd;have C:=II (v:=v) B.nd (bK B.pre A.lt) B.lt;have e:(λc=>mkT (n+1) v t c)=λc=>(λa c1=>(λb c2=>choice v c2 a b) (mkT n (v+1) (t / pw n) c1).2 (mkT n (v+1) (t / pw n) c1).1) (mkT n (v+1) (t%pw n) c).2 (mkT n (v+1) (t%pw n) c).1:=by funext c';rw[mkT,if_neg h]
   rw[e]
   exact fU.seq (op1:=λc=>mkT n (v+1) (t%pw n) c) (op2:=λa c1=>(λb c2=>choice v c2 a b) (mkT n (v+1) (t / pw n) c1).2 (mkT n (v+1) (t / pw n) c1).1) A
    (fU.seq (op1:=λc1=>mkT n (v+1) (t / pw n) c1) (op2:=λb c2=>choice v c2 (mkT n (v+1) (t%pw n) c).2 b) B C)
end Mth
namespace Mth
open VaprbBase
def AE (a:Frac):Prop:=0<a.den/\Nat.gcd a.num.natAbs a.den=1
theorem wY {a b:Frac}(ha:AE a)(hb:AE b)(h:a.num*b.den=b.num*a.den):a=b:=by
 obtain ⟨a1,a2⟩:=ha;obtain ⟨b1,b2⟩:=hb
 have hn:a.num.natAbs*b.den=b.num.natAbs*a.den:=by
  have:=congrArg Int.natAbs h
  simpa [Int.natAbs_mul] using this
 have d1:a.den ∣ b.den:=by
  have c:Nat.Coprime a.den a.num.natAbs:=by rw[Nat.coprime_comm];exact a2
  exact c.dvd_of_dvd_mul_left ⟨b.num.natAbs,by rw[hn,Nat.mul_comm]⟩
 have d2:b.den ∣ a.den:=by
  have c:Nat.Coprime b.den b.num.natAbs:=by rw[Nat.coprime_comm];exact b2
  exact c.dvd_of_dvd_mul_left ⟨a.num.natAbs,by rw[← hn,Nat.mul_comm]⟩
 have e:a.den=b.den:=Nat.dvd_antisymm d1 d2
 have en:a.num=b.num:=by
  rw[e] at h;exact Int.eq_of_mul_eq_mul_right (by lia) h
 cases a;cases b;simp only at e en;subst e en;rfl
theorem pB {n:Int}{d:Nat}(hd:0<d):0<Nat.gcd n.natAbs d:=Nat.gcd_pos_of_pos_right _ hd
theorem dS {n:Int}{d:Nat}(hd:0<d):frac n d=⟨n / (Nat.gcd n.natAbs d:Nat),d / Nat.gcd n.natAbs d⟩:=by
 unfold frac;rw[if_neg (by lia)]
theorem sF (n:Int)(d:Nat):((Nat.gcd n.natAbs d:Nat):Int) ∣ n:=Int.ofNat_dvd_left.mpr (Nat.gcd_dvd_left _ _)
theorem iR {n:Int}{d:Nat}(hd:0<d):(frac n d).num*(Nat.gcd n.natAbs d:Nat)=n:=by
 rw[dS hd];exact Int.ediv_mul_cancel (sF n d)
theorem tZ {n:Int}{d:Nat}(hd:0<d):(frac n d).den*Nat.gcd n.natAbs d=d:=by
 rw[dS hd];exact Nat.div_mul_cancel (Nat.gcd_dvd_right _ _)
theorem cF {n:Int}{d:Nat}(hd:0<d):AE (frac n d):=by
 have hg:=pB (n:=n) hd;have h1:=iR (n:=n) hd;have h2:=tZ (n:=n) hd;refine ⟨Nat.pos_of_ne_zero λe=>?_,?_⟩
 ·rw[e,Nat.zero_mul] at h2;lia
 ·have e1:(frac n d).num.natAbs*Nat.gcd n.natAbs d=n.natAbs:=by
   have:=congrArg Int.natAbs h1
   simpa [Int.natAbs_mul] using this
  have:Nat.gcd ((frac n d).num.natAbs*Nat.gcd n.natAbs d) ((frac n d).den*Nat.gcd n.natAbs d)=Nat.gcd n.natAbs d:=by rw[e1,h2]
  rw[Nat.gcd_mul_right] at this;exact Nat.eq_of_mul_eq_mul_right hg (by rw[this,Nat.one_mul])
theorem cJ {n:Int}{d:Nat}(hd:0<d):(frac n d).num*d=n*(frac n d).den:=by
 have h1:=iR (n:=n) hd;have h2:=tZ (n:=n) hd
 calc (frac n d).num*(d:Int)=(frac n d).num*(((frac n d).den*Nat.gcd n.natAbs d:Nat):Int):=by rw[h2]
  _=((frac n d).num*(Nat.gcd n.natAbs d:Nat))*(frac n d).den:=by
   rw[Int.natCast_mul,Int.mul_comm ((frac n d).den:Int),← Int.mul_assoc]
  _=n*(frac n d).den:=by rw[h1]
theorem gO {n n':Int}{d d':Nat}(hd:0<d)(hd':0<d')(h:n*d'=n'*d):frac n d=frac n' d':=by
 refine wY (cF hd) (cF hd') ?_;have c1:=cJ (n:=n) hd;have c2:=cJ (n:=n') hd'
 have q:((frac n d).num*(frac n' d').den)*((d:Int)*d')=((frac n' d').num*(frac n d).den)*((d:Int)*d'):=by
  calc ((frac n d).num*(frac n' d').den)*((d:Int)*d')=((frac n d).num*d)*((frac n' d').den*d'):=by simp only[Int.mul_assoc,Int.mul_left_comm,Int.mul_comm]
   _=(n*(frac n d).den)*((frac n' d').den*d'):=by rw[c1]
   _=(n*d')*((frac n d).den*(frac n' d').den):=by simp only[Int.mul_assoc,Int.mul_left_comm,Int.mul_comm]
   _=(n'*d)*((frac n d).den*(frac n' d').den):=by rw[h]
   _=(n'*(frac n' d').den)*((frac n d).den*d):=by simp only[Int.mul_assoc,Int.mul_left_comm,Int.mul_comm]
   _=((frac n' d').num*d')*((frac n d).den*d):=by rw[c2]
   _=((frac n' d').num*(frac n d).den)*((d:Int)*d'):=by simp only[Int.mul_assoc,Int.mul_left_comm,Int.mul_comm]
 exact Int.eq_of_mul_eq_mul_right (Int.mul_ne_zero (by lia) (by lia)) q
theorem m6 {a:Frac}(h:AE a):frac a.num a.den=a:=wY (cF h.1) h (cJ h.1)
theorem kY {n n':Int}{d d':Nat}(hd:0<d)(hd':0<d'):(frac n d).mul (frac n' d')=frac (n*n') (d*d'):=by
 unfold Frac.mul;have p1:=(cF (n:=n) hd).1;have p2:=(cF (n:=n') hd').1;refine gO (Nat.mul_pos p1 p2) (Nat.mul_pos hd hd') ?_;have c1:=cJ (n:=n) hd;have c2:=cJ (n:=n') hd';rw[Int.natCast_mul,Int.natCast_mul]
 calc ((frac n d).num*(frac n' d').num)*((d:Int)*d')=((frac n d).num*d)*((frac n' d').num*d'):=by simp only[Int.mul_assoc,Int.mul_left_comm,Int.mul_comm]
  _=(n*(frac n d).den)*(n'*(frac n' d').den):=by rw[c1,c2]
  _=(n*n')*((frac n d).den*(frac n' d').den):=by simp only[Int.mul_assoc,Int.mul_left_comm,Int.mul_comm]
theorem oZ {n n':Int}{d d':Nat}(hd:0<d)(hd':0<d'):(frac n d).add (frac n' d')=frac (n*d'+n'*d) (d*d'):=by
 unfold Frac.add;have p1:=(cF (n:=n) hd).1;have p2:=(cF (n:=n') hd').1;refine gO (Nat.mul_pos p1 p2) (Nat.mul_pos hd hd') ?_;have c1:=cJ (n:=n) hd;have c2:=cJ (n:=n') hd';rw[Int.natCast_mul,Int.natCast_mul,Int.add_mul,Int.add_mul]
 have e1:(frac n d).num*(frac n' d').den*((d:Int)*d')=n*d'*((frac n d).den*(frac n' d').den):=by
  calc (frac n d).num*(frac n' d').den*((d:Int)*d')=((frac n d).num*d)*((frac n' d').den*d'):=by simp only[Int.mul_assoc,Int.mul_left_comm,Int.mul_comm]
   _=(n*(frac n d).den)*((frac n' d').den*d'):=by rw[c1]
   _=_:=by simp only[Int.mul_assoc,Int.mul_left_comm,Int.mul_comm]
 have e2:(frac n' d').num*(frac n d).den*((d:Int)*d')=n'*d*((frac n d).den*(frac n' d').den):=by
  calc (frac n' d').num*(frac n d).den*((d:Int)*d')=((frac n' d').num*d')*((frac n d).den*d):=by simp only[Int.mul_assoc,Int.mul_left_comm,Int.mul_comm]
   _=(n'*(frac n' d').den)*((frac n d).den*d):=by rw[c2]
   _=_:=by simp only[Int.mul_assoc,Int.mul_left_comm,Int.mul_comm]
 rw[e1,e2]
theorem mS {n n':Int}{d:Nat}(hd:0<d):(frac n d).add (frac n' d)=frac (n+n') d:=by
 rw[oZ hd hd];refine gO (Nat.mul_pos hd hd) hd ?_;rw[Int.natCast_mul,← Int.add_mul,Int.mul_assoc]
theorem jO {n:Int}{d k:Nat}(hd:0<d)(hk:0<k):frac (n*k) (d*k)=frac n d:=by
 refine gO (Nat.mul_pos hd hk) hd ?_;rw[Int.natCast_mul,Int.mul_assoc,Int.mul_comm (k:Int)]
theorem AU:frac 1 1=Frac.one:=rfl
theorem IO {d:Nat}(hd:0<d):frac 0 d=Frac.zero:=by
 have:frac 0 d=frac 0 1:=gO hd (by decide) (by simp)
 rw[this];rfl
theorem LC {n:Int}{d:Nat}(hd:0<d):(frac n d).neg=frac (-n) d:=by
 unfold Frac.neg;rw[dS hd,dS hd,Int.natAbs_neg,Int.neg_ediv_of_dvd (sF n d)]
theorem y9 {n:Int}{d:Nat}(hd:0<d):Frac.one.sub (frac n d)=frac (d-n) d:=by
 unfold Frac.sub;rw[LC hd,← AU,oZ (by decide) hd];refine gO (Nat.mul_pos (by decide) hd) hd ?_;simp[Int.sub_eq_add_neg]
theorem iH {n:Int}{d:Nat}(hd:0<d):(frac n d).num=0↔n=0:=by
 have h:=iR (n:=n) hd;constructor
 ·intro e;rw[e,Int.zero_mul] at h;exact h.symm
 ·intro e;have hg:=pB (n:=n) hd;rw[e] at h
  rcases Int.mul_eq_zero.mp h with q|q
  ·rw[e];exact q
  ·rw[e] at hg
   have:Nat.gcd (0:Int).natAbs d=0:=by exact_mod_cast q
   lia
theorem y8 {n:Int}{d:Nat}(hd:0<d)(hn:0<n):0<(frac n d).num:=by
 have h:=iR (n:=n) hd;have hg:=pB (n:=n) hd
 rcases Int.lt_trichotomy (frac n d).num 0 with q|q|q
 ·have:=Int.mul_neg_of_neg_of_pos q (show (0:Int)<(Nat.gcd n.natAbs d:Nat) by exact_mod_cast hg)
  lia
 ·have:=(iH hd).mp q
  lia
 ·exact q
theorem AT {n n':Int}{d d':Nat}(hd:0<d)(hd':0<d')(hn:0<n'):(frac n d).div (frac n' d')=frac (n*d') (d*n'.toNat):=by
 have p:=y8 hd' hn;unfold Frac.div;rw[if_neg (by lia)];have p1:=(cF (n:=n) hd).1;have p2:=(cF (n:=n') hd').1;have c1:=cJ (n:=n) hd;have c2:=cJ (n:=n') hd';refine gO (Nat.mul_pos p1 (by lia)) (Nat.mul_pos hd (by lia)) ?_;have t1:((n'.toNat:Nat):Int)=n':=by lia
 have t2:(((frac n' d').num.natAbs:Nat):Int)=(frac n' d').num:=by lia
 rw[Int.natCast_mul,Int.natCast_mul,t1,t2]
 calc (frac n d).num*(frac n' d').den*((d:Int)*n')=((frac n d).num*d)*(n'*(frac n' d').den):=by simp only[Int.mul_assoc,Int.mul_left_comm,Int.mul_comm]
  _=(n*(frac n d).den)*((frac n' d').num*d'):=by rw[c1,c2]
  _=n*d'*((frac n d).den*(frac n' d').num):=by simp only[Int.mul_assoc,Int.mul_left_comm,Int.mul_comm]
theorem FS {n n':Int}{d d':Nat}(hd:0<d)(hd':0<d'):(frac n d).lt (frac n' d')=decide (n*d'<n'*d):=by
 have p1:=(cF (n:=n) hd).1;have p2:=(cF (n:=n') hd').1;have c1:=cJ (n:=n) hd;have c2:=cJ (n:=n') hd';unfold Frac.lt;have k1:(0:Int)<(d:Int)*d':=Int.mul_pos (by lia) (by lia);have k2:(0:Int)<((frac n d).den:Int)*(frac n' d').den:=Int.mul_pos (by lia) (by lia)
 have e1:((frac n d).num*(frac n' d').den)*((d:Int)*d')=(n*d')*(((frac n d).den:Int)*(frac n' d').den):=by
  calc _=((frac n d).num*d)*((frac n' d').den*d'):=by simp only[Int.mul_assoc,Int.mul_left_comm,Int.mul_comm]
   _=(n*(frac n d).den)*((frac n' d').den*d'):=by rw[c1]
   _=_:=by simp only[Int.mul_assoc,Int.mul_left_comm,Int.mul_comm]
 have e2:((frac n' d').num*(frac n d).den)*((d:Int)*d')=(n'*d)*(((frac n d).den:Int)*(frac n' d').den):=by
  calc _=((frac n' d').num*d')*((frac n d).den*d):=by simp only[Int.mul_assoc,Int.mul_left_comm,Int.mul_comm]
   _=(n'*(frac n' d').den)*((frac n d).den*d):=by rw[c2]
   _=_:=by simp only[Int.mul_assoc,Int.mul_left_comm,Int.mul_comm]
 have:((frac n d).num*(frac n' d').den<(frac n' d').num*(frac n d).den)↔(n*d'<n'*d):=by
  constructor
  ·intro h
   have:=Int.mul_lt_mul_of_pos_right h k1
   rw[e1,e2] at this;exact Int.lt_of_mul_lt_mul_right this (Int.le_of_lt k2)
  ·intro h
   have:=Int.mul_lt_mul_of_pos_right h k2
   rw[← e1,← e2] at this;exact Int.lt_of_mul_lt_mul_right this (Int.le_of_lt k1)
 exact decide_eq_decide.mpr this
end Mth
namespace Mth
open VaprbBase
theorem cY {α:Type}(p:α->Bool)(l:List α):(l.takeWhile p).length<=l.length:=(List.takeWhile_prefix p).length_le
theorem yK {m:Bool}{l:Bytes}{n:Int}(h:numberOf m l=some n):0<l.length:=by
 unfold numberOf at h;split at h
 ·cases h
 ·rename_i q
  cases l with
  | nil=>exact absurd (Or.inl rfl) q
  | cons _ _=>simp
theorem rT {l:Bytes}{t:Tok}{k:Nat}(h:token l=some (t,k)):0<k/\k<=l.length:=by
 unfold token at h
 cases l with
 | nil=>cases h
 | cons b r=>
  dsimp only at h;split at h
  ·rename_i hb;split at h
   ·cases h
   ·cases h;refine ⟨?_,cY _ _⟩;rw[List.takeWhile_cons_of_pos (by simp[hb])];simp
  ·split at h
   ·rename_i hb
    cases q:numberOf false ((b::r).takeWhile isDigit) with
    | none=>rw[q] at h;cases h
    | some n=>
     rw[q] at h;cases h;exact ⟨yK q,cY _ _⟩
   ·split at h
    ·split at h
     ·cases h;rename_i hh
      cases r with
      | nil=>cases hh
      | cons _ _=>simp
     ·cases q:numberOf true (r.takeWhile isDigit) with
      | none=>rw[q] at h;cases h
      | some n=>
       rw[q] at h;cases h
       have:=cY isDigit r
       simp only[List.length_cons];lia
    ·split at h
     ·cases h;simp
     ·cases h
theorem kU {α:Type}(p:α->Bool)(l:List α):l.dropWhile p=l.drop (l.takeWhile p).length:=by
 induction l with
 | nil=>rfl
 | cons a l ih=>
  by_cases h:p a=true
  ·rw[List.dropWhile_cons_of_pos h,List.takeWhile_cons_of_pos h,List.length_cons,List.drop_succ_cons,ih]
  ·rw[List.dropWhile_cons_of_neg h,List.takeWhile_cons_of_neg h];rfl
theorem l7:∀ (n m:Nat) (at_:Nat) (l:Bytes),l.length<n->l.length<m->lex n at_ l=lex m at_ l
 | 0,_,_,_,h,_=>by lia
 | _,0,_,_,_,h=>by lia
 | n+1,m+1,at_,[],_,_=>rfl
 | n+1,m+1,at_,b::r,h1,h2=>by
  rw[List.length_cons] at h1 h2;unfold lex
  by_cases hb:isBlank b=true
  ·rw[if_pos hb,if_pos hb];exact l7 n m _ r (by lia) (by lia)
  ·rw[if_neg hb,if_neg hb]
   by_cases hr:(b==35)=true
   ·rw[if_pos hr,if_pos hr]
    have:(r.dropWhile (· != 10)).length<=r.length:=by rw[kU,List.length_drop];lia
    exact l7 n m _ _ (by lia) (by lia)
   ·rw[if_neg hr,if_neg hr]
    cases q:token (b::r) with
    | none=>rfl
    | some x=>
     obtain ⟨t,k⟩:=x;obtain ⟨k1,k2⟩:=rT q;rw[List.length_cons] at k2;show (lex n (at_+k) ((b::r).drop k)).map _=(lex m (at_+k) ((b::r).drop k)).map _;rw[l7 n m (at_+k) ((b::r).drop k) (by rw[List.length_drop,List.length_cons];lia) (by rw[List.length_drop,List.length_cons];lia)]
def kQ (at_:Nat)(l:Bytes):Except Fault Toks:=lex (l.length+1) at_ l
theorem LP (at_:Nat):kQ at_ []=.ok [⟨at_,.halt_⟩]:=rfl
theorem DN {at_:Nat}{b:UInt8}{r:Bytes}(h:isBlank b=true):kQ at_ (b::r)=kQ (at_+1) r:=by
 unfold kQ;rw[List.length_cons,lex,if_pos h]
theorem B3 {at_:Nat}{b:UInt8}{r:Bytes}(h0:isBlank b=false)(h:(b==35)=true):kQ at_ (b::r)=kQ (at_+1+(r.takeWhile (· != 10)).length) (r.drop (r.takeWhile (· != 10)).length):=by
 unfold kQ;rw[List.length_cons,lex,if_neg (by simp[h0]),if_pos h,kU];exact l7 _ _ _ _ (by rw[List.length_drop];lia) (by lia)
theorem LO {at_:Nat}{b:UInt8}{r:Bytes}(h0:isBlank b=false)(h:(b==35)=false)(q:token (b::r)=none):kQ at_ (b::r)=.error ⟨2,at_⟩:=by
 unfold kQ;rw[List.length_cons,lex,if_neg (by simp[h0]),if_neg (by simp[h]),q]
theorem LQ {at_ k:Nat}{b:UInt8}{r:Bytes}{t:Tok}(h0:isBlank b=false)(h:(b==35)=false)(q:token (b::r)=some (t,k)):
  kQ at_ (b::r)=(kQ (at_+k) ((b::r).drop k)).map λl=>⟨at_,t⟩::l:=by
 unfold kQ;rw[List.length_cons,lex,if_neg (by simp[h0]),if_neg (by simp[h]),q]
 have:=rT q
 rw[List.length_cons] at this;show (lex (r.length+1) (at_+k) ((b::r).drop k)).map _=_;rw[l7 (r.length+1) (((b::r).drop k).length+1) _ _ (by rw[List.length_drop,List.length_cons];lia) (by lia)]
theorem CF (b:Bytes):tokens b=if TEXT<b.length then .error ⟨1,TEXT⟩ else kQ 0 b:=rfl
def bS:Bytes->Nat
 | []=>0
 | b::r=>if isBlank b=true then 1+bS r else if (b==35)=true then 1+(r.takeWhile (· != 10)).length+bS (r.drop (r.takeWhile (· != 10)).length) else 0
termination_by l=>l.length
decreasing_by all_goals simp;try lia
theorem tO:bS []=0:=by rw[bS]
theorem oS {b:UInt8}{r:Bytes}(h:isBlank b=true):bS (b::r)=1+bS r:=by rw[bS,if_pos h]
theorem mR {b:UInt8}{r:Bytes}(h0:isBlank b=false)(h:(b==35)=true):bS (b::r)=1+(r.takeWhile (· != 10)).length+bS (r.drop (r.takeWhile (· != 10)).length):=by
 rw[bS,if_neg (by simp[h0]),if_pos h]
theorem wH {b:UInt8}{r:Bytes}(h0:isBlank b=false)(h:(b==35)=false):bS (b::r)=0:=by
 rw[bS,if_neg (by simp[h0]),if_neg (by simp[h])]
theorem jK:∀ (n:Nat) (l:Bytes),l.length<=n->bS l<=l.length/\∀ at_,kQ at_ l=kQ (at_+bS l) (l.drop (bS l))/\
  ∀ b r,l.drop (bS l)=b::r->isBlank b=false/\(b==35)=false
 | n,[],_=>by rw[tO];simp
 | 0,b::r,h=>by simp at h
 | n+1,b::r,h=>by
  rw[List.length_cons] at h
  by_cases h0:isBlank b=true
  ·rw[oS h0];obtain ⟨i1,i2⟩:=jK n r (by lia);refine ⟨by rw[List.length_cons];lia,λat_=>⟨?_,λb' r' e=>?_⟩⟩
   ·rw[DN h0,(i2 (at_+1)).1,Nat.add_comm 1 (bS r),List.drop_succ_cons];congr 1;lia
   ·rw[Nat.add_comm,List.drop_succ_cons] at e;exact (i2 0).2 b' r' e
  ·have h0:isBlank b=false:=by simpa using h0
   by_cases h1:(b==35)=true
   ·rw[mR h0 h1];have tl:=cY (· != (10:UInt8)) r;obtain ⟨i1,i2⟩:=jK n (r.drop (r.takeWhile (· != 10)).length) (by rw[List.length_drop];lia);rw[List.length_drop] at i1;refine ⟨by rw[List.length_cons];lia,λat_=>⟨?_,λb' r' e=>?_⟩⟩
    ·rw[B3 h0 h1,(i2 _).1,List.drop_drop]
     have:1+(r.takeWhile (· != 10)).length+bS (r.drop (r.takeWhile (· != 10)).length)=((r.takeWhile (· != 10)).length+bS (r.drop (r.takeWhile (· != 10)).length))+1:=by lia
     rw[this,List.drop_succ_cons];congr 1;lia
    ·rw[List.drop_drop] at i2
     have:1+(r.takeWhile (· != 10)).length+bS (r.drop (r.takeWhile (· != 10)).length)=((r.takeWhile (· != 10)).length+bS (r.drop (r.takeWhile (· != 10)).length))+1:=by lia
     rw[this,List.drop_succ_cons] at e;exact (i2 0).2 b' r' e
   ·have h1:(b==35)=false:=by simpa using h1
    rw[wH h0 h1];refine ⟨Nat.zero_le _,λat_=>⟨rfl,λb' r' e=>?_⟩⟩;cases e;exact ⟨h0,h1⟩
def sB (l:Toks):Prop:=∃ (i:Toks) (p:Nat),l=i++[⟨p,.halt_⟩]/\∀ x∈i,x.tok≠.halt_
theorem w8 {l:Bytes}{t:Tok}{k:Nat}(h:token l=some (t,k)):t≠.halt_:=by
 unfold token at h
 cases l with
 | nil=>cases h
 | cons b r=>
  dsimp only at h;split at h
  ·split at h
   ·cases h
   ·cases h;intro q;cases q
  ·split at h
   ·cases q:numberOf false ((b::r).takeWhile isDigit) with
    | none=>rw[q] at h;cases h
    | some n=>rw[q] at h;cases h;intro q;cases q
   ·split at h
    ·split at h
     ·cases h;intro q;cases q
     ·cases q:numberOf true (r.takeWhile isDigit) with
      | none=>rw[q] at h;cases h
      | some n=>rw[q] at h;cases h;intro q;cases q
    ·split at h
     ·cases h;intro q;cases q
     ·cases h
theorem m9:∀ (n at_:Nat) (l:Bytes) (ts:Toks),lex n at_ l=.ok ts->sB ts
 | 0,at_,l,ts,h=>by cases h;exact ⟨[],at_,rfl,by simp⟩
 | n+1,at_,[],ts,h=>by cases h;exact ⟨[],at_,rfl,by simp⟩
 | n+1,at_,b::r,ts,h=>by
  unfold lex at h;split at h
  ·exact m9 n _ _ ts h
  ·split at h
   ·exact m9 n _ _ ts h
   ·split at h
    ·cases h
    ·rename_i t k q
     cases e:lex n (at_+k) ((b::r).drop k) with
     | error f=>rw[e] at h;cases h
     | ok l'=>
      rw[e] at h;cases h;obtain ⟨i,p,e2,hi⟩:=m9 n _ _ l' e;refine ⟨⟨at_,t⟩::i,p,by rw[e2];rfl,λx hx=>?_⟩
      rcases List.mem_cons.mp hx with rfl|hx
      ·exact w8 q
      ·exact hi x hx
theorem qI {b:Bytes}{ts:Toks}(h:tokens b=.ok ts):sB ts:=by
 unfold tokens at h;split at h
 ·cases h
 ·exact m9 _ _ _ _ h
end Mth
namespace Mth
open VaprbBase Vaprbi
theorem xE (n:Nat):pw n=2^(2^n):=rfl
theorem SK {op:Nat->Nat->Nat}{f:Bool->Bool->Bool}(hop:∀ x y i,(op x y).testBit i=f (x.testBit i) (y.testBit i))(hlt:∀ x y k,x<2^k->y<2^k->op x y<2^k)
  {k a b c d:Nat} (ha:a<2^k) (hc:c<2^k):op (a+2^k*b) (c+2^k*d)=op a c+2^k*op b d:=by
 have hl:=hlt a c k ha hc;rw[Nat.add_comm a,Nat.add_comm c,Nat.add_comm (op a c)];refine Nat.eq_of_testBit_eq λi=>?_;rw[hop,Nat.testBit_two_pow_mul_add _ ha,Nat.testBit_two_pow_mul_add _ hc,Nat.testBit_two_pow_mul_add _ hl]
 split
 ·rw[hop]
 ·rw[hop]
theorem vJ {op:Nat->Nat->Nat}{f:Bool->Bool->Bool}(hop:∀ x y i,(op x y).testBit i=f (x.testBit i) (y.testBit i))(hlt:∀ x y k,x<2^k->y<2^k->op x y<2^k)
  (h0:∀ a b:Bool,op (if a=true then 1 else 0) (if b=true then 1 else 0)=if f a b=true then 1 else 0):
  ∀ (n:Nat) (g h:List Bool->Bool),tab n (λas=>f (g as) (h as))=op (tab n g) (tab n h)
 | 0,g,h=>by
  show (if f (g []) (h [])=true then 1 else 0)=op (if g []=true then 1 else 0) (if h []=true then 1 else 0);rw[h0]
 | n+1,g,h=>by
  show tab n _+pw n*tab n _=op (tab n _+pw n*tab n _) (tab n _+pw n*tab n _);rw[xE,SK hop hlt (rS n _) (rS n _),vJ hop hlt h0 n,vJ hop hlt h0 n]
theorem zZ (n:Nat)(g h:List Bool->Bool):tab n (λas=>g as&&h as)=tab n g &&& tab n h:=
 vJ (op:=λa b=>a &&& b) (f:=λa b=>a&&b) (λx y i=>Nat.testBit_and x y i) (λx y k hx hy=>Nat.and_lt_two_pow x hy) (by decide) n g h
theorem NY (n:Nat)(g h:List Bool->Bool):tab n (λas=>g as||h as)=tab n g ||| tab n h:=
 vJ (op:=λa b=>a ||| b) (f:=λa b=>a||b) (λx y i=>Nat.testBit_or x y i) (λx y k hx hy=>Nat.or_lt_two_pow hx hy) (by decide) n g h
theorem A2 (n:Nat)(g h:List Bool->Bool):tab n (λas=>g as ^^ h as)=tab n g ^^^ tab n h:=
 vJ (op:=λa b=>a ^^^ b) (f:=λa b=>a ^^ b) (λx y i=>Nat.testBit_xor x y i) (λx y k hx hy=>Nat.xor_lt_two_pow hx hy) (by decide) n g h
theorem lQ:∀ n,tab n (λ_=>true)=pw n-1
 | 0=>rfl
 | n+1=>by
  show tab n (λ_=>true)+pw n*tab n (λ_=>true)=_;rw[lQ n,sW]
  have:=lE n
  rw[Nat.mul_sub,Nat.mul_one]
  have:pw n<=pw n*pw n:=Nat.le_mul_of_pos_left _ (lE n)
  lia
theorem rR:∀ n,tab n (λ_=>false)=0
 | 0=>rfl
 | n+1=>by
  show tab n (λ_=>false)+pw n*tab n (λ_=>false)=_;rw[rR n];simp
theorem HY (n:Nat)(g:List Bool->Bool):tab n (λas=>!g as)=(pw n-1) ^^^ tab n g:=by
 rw[← lQ,← A2];congr 1;funext as;cases g as<;>rfl
theorem UN (n:Nat)(g h:List Bool->Bool):tab n (λas=>g as==h as)=(pw n-1) ^^^ tab n g ^^^ tab n h:=by
 rw[← lQ,← A2,← A2];congr 1;funext as;cases g as<;>cases h as<;>rfl
theorem UO (n:Nat)(c g h:List Bool->Bool):tab n (λas=>if c as=true then g as else h as)=(tab n c &&& tab n g) ||| (((pw n-1) ^^^ tab n c) &&& tab n h):=by
 rw[← HY,← zZ,← zZ,← NY];congr 1;funext as;cases c as<;>simp
theorem NZ (n:Nat):tab (n+1) (λas=>as[0]?.getD false)=pw n*(pw n-1):=by
 show tab n (λr=>(false::r)[0]?.getD false)+pw n*tab n (λr=>(true::r)[0]?.getD false)=_;have e0:(λr:List Bool=>(false::r)[0]?.getD false)=λ_=>false:=by funext r;rfl
 have e1:(λr:List Bool=>(true::r)[0]?.getD false)=λ_=>true:=by funext r;rfl
 rw[e0,e1,rR,lQ,Nat.zero_add]
theorem A0 (n i:Nat):tab (n+1) (λas=>as[i+1]?.getD false)=tab n (λas=>as[i]?.getD false)+pw n*tab n (λas=>as[i]?.getD false):=by
 show tab n (λr=>(false::r)[i+1]?.getD false)+pw n*tab n (λr=>(true::r)[i+1]?.getD false)=_;have e0:(λr:List Bool=>(false::r)[i+1]?.getD false)=λr=>r[i]?.getD false:=by funext r;rfl
 have e1:(λr:List Bool=>(true::r)[i+1]?.getD false)=λr=>r[i]?.getD false:=by funext r;rfl
 rw[e0,e1]
theorem xA {k a b:Nat}(ha:a<2^k):a ||| (b*2^k)=a+2^k*b:=by
 rw[Nat.mul_comm b,Nat.add_comm,Nat.or_comm];exact (Nat.two_pow_add_eq_or_of_lt ha b).symm
theorem R0 {k a b:Nat}(ha:a<2^k):(a+2^k*b) ^^^ (b*2^k)=a:=by
 rw[← xA ha,Nat.mul_comm b]
 have e:2^k*b ||| a=a ||| 2^k*b:=Nat.or_comm _ _
 refine Nat.eq_of_testBit_eq λi=>?_;rw[Nat.testBit_xor,Nat.testBit_or,Nat.testBit_two_pow_mul]
 by_cases h:k<=i
 ·have:a.testBit i=false:=Nat.testBit_lt_two_pow (Nat.lt_of_lt_of_le ha (Nat.pow_le_pow_right (by decide) h))
  rw[this];simp
 ·simp[h]
theorem yG (n t:Nat):t ^^^ ((t / pw n)*pw n)=t%pw n:=by
 have e:t=t%pw n+2^(2^n)*(t / pw n):=by
  have:=Nat.mod_add_div t (pw n)
  exact this.symm
 have h:t%pw n<2^(2^n):=Nat.mod_lt _ (lE n)
 have:=R0 (b:=t / pw n) h
 rw[← e] at this;exact this
end Mth
namespace Mth
open VaprbBase Vaprbi
def run {α β:Type}(f:List β->α->β)(c:List α):List β:=c.foldl (λl x=>l++[f l x]) []
theorem lG {α β:Type}(f:List β->α->β)(c:List α)(x:α):run f (c++[x])=run f c++[f (run f c) x]:=by
 unfold run;rw[List.foldl_append];rfl
theorem C3 {α:Type}{P:List α->Prop}(h0:P [])(h1:∀ c x,P c->P (c++[x]))(c:List α):P c:=by
 rw[← List.reverse_reverse c]
 induction c.reverse with
 | nil=>exact h0
 | cons x r ih=>rw[List.reverse_cons];exact h1 _ _ ih
theorem iZ {α β:Type}(f:List β->α->β)(c:List α):∀ k,run f (c.take k)=(run f c).take k/\(run f c).length=c.length:=by
 have len:∀ (c:List α),(run f c).length=c.length:=λc=>by
  induction c using C3 with
  | h0=>rfl
  | h1 c x ih=>rw[lG,List.length_append,List.length_append,ih];rfl
 intro k;refine ⟨?_,len c⟩
 induction c using C3 with
 | h0=>simp[run]
 | h1 c x ih=>
  rw[lG]
  by_cases h:k<=c.length
  ·rw[List.take_append_of_le_length h,List.take_append_of_le_length (by rw[len];exact h),ih]
  ·rw[List.take_of_length_le (by simp;lia),List.take_of_length_le (by simp[len];lia),lG]
theorem eM {α β:Type}(f:List β->α->β)(c:List α):(run f c).length=c.length:=(iZ f c 0).2
theorem uS {α β:Type}(f:List β->α->β){c:List α}{i:Nat}{x:α}(h:c[i]?=some x):(run f c)[i]?=some (f ((run f c).take i) x):=by
 have hi:=(List.getElem?_eq_some_iff.mp h).1;have e:=(iZ f c (i+1)).1;rw[List.take_add_one,h] at e;simp only[Option.toList] at e;rw[lG,(iZ f c i).1] at e
 have:=congrArg (·[i]?) e
 simp only[List.getElem?_take,Nat.lt_succ_self,if_true] at this;rw[← this,List.getElem?_append_right (by simp[eM];lia)];simp[eM,Nat.min_eq_left (Nat.le_of_lt hi)]
theorem Q9 {α β:Type}(f:List β->α->β){c c':List α}(p:c <+: c'):run f c <+: run f c':=by
 obtain ⟨k,e⟩:∃ k,c=c'.take k:=⟨c.length,(List.prefix_iff_eq_take.mp p)⟩
 rw[e,(iZ f c' k).1];exact List.take_prefix _ _
theorem cP {β:Type}{l:List β}{i j:Nat}{d:β}(h:j<i):(l.take i).getD j d=l.getD j d:=by
 simp[List.getD,List.getElem?_take,h]
def pr (g:Nat->Nat):Nat->Nat->Nat
 | _,0=>1
 | lo,k+1=>g lo*pr g (lo+1) k
theorem yR {g:Nat->Nat}:∀ {lo k:Nat},(∀ v,lo<=v->v<lo+k->0<g v)->0<pr g lo k
 | _,0,_=>Nat.one_pos
 | lo,k+1,h=>Nat.mul_pos (h lo (Nat.le_refl _) (by lia)) (yR λv a b=>h v (by lia) (by lia))
theorem RM {g g':Nat->Nat}:∀ {lo k:Nat},(∀ v,lo<=v->v<lo+k->g v<=g' v)->pr g lo k<=pr g' lo k
 | _,0,_=>Nat.le_refl _
 | lo,k+1,h=>Nat.mul_le_mul (h lo (Nat.le_refl _) (by lia)) (RM λv a b=>h v (by lia) (by lia))
theorem uP (b:Nat):∀ lo k,pr (λ_=>b) lo k=b^k
 | _,0=>rfl
 | lo,k+1=>by show b*pr _ _ _=_;rw[uP b,Nat.pow_succ,Nat.mul_comm]
theorem fM (g:Nat->Nat)(v:Nat):pr g v 1=g v:=by show g v*1=_;rw[Nat.mul_one]
theorem rB (g:Nat->Nat):∀ lo j k,pr g lo (j+k)=pr g lo j*pr g (lo+j) k
 | lo,0,k=>by simp[pr]
 | lo,j+1,k=>by
  rw[show j+1+k=(j+k)+1 from by lia];show g lo*pr g (lo+1) (j+k)=g lo*pr g (lo+1) j*_;rw[rB g,Nat.mul_assoc,show lo+1+j=lo+(j+1) from by lia]
theorem TJ {g:Nat->Nat}{n lo k:Nat}(h:∀ v,v<n->0<g v)(hs:lo+k<=n):pr g lo k<=pr g 0 n:=by
 obtain ⟨r,rfl⟩:=Nat.exists_eq_add_of_le hs;rw[rB,rB];have h1:0<pr g 0 lo:=yR λv _ b=>h v (by lia);have h2:0<pr g (0+(lo+k)) r:=yR λv _ b=>h v (by lia);rw[Nat.zero_add]
 calc pr g lo k<=pr g 0 lo*pr g lo k:=Nat.le_mul_of_pos_left _ h1
  _<=_:=Nat.le_mul_of_pos_right _ (by simpa using h2)
abbrev Sc:=Nat×Nat
def N9 (n:Nat)(l:List Sc):CNode->Sc
 | .const _=>(n,0)
 | .yes v=>(v,1)
 | .no v=>(v,1)
 | .add a _=>l.getD a (0,0)
 | .mul a b=>((l.getD a (0,0)).1,(l.getD b (0,0)).2+1)
def scs (n:Nat)(c:Circuit):List Sc:=run (N9 n) c
def sc (n:Nat)(c:Circuit)(i:Nat):Sc:=(scs n c).getD i (0,0)
def nz (c:Circuit)(a:Nat):Prop:=c[a]?≠some (.const Frac.zero)
def tJ (c:Circuit)(a v:Nat):Prop:=c[a]?=some (.yes v)∨c[a]?=some (.no v)∨∃ x y,x<a/\y<a/\c[a]?=some (.add x y)/\c[x]?=some (.no v)/\c[y]?=some (.yes v)
theorem CJ {c c':Circuit}(p:c <+: c'){a v:Nat}(h:a<c.length):tJ c' a v↔tJ c a v:=by
 unfold tJ;rw[eV p h];refine or_congr Iff.rfl (or_congr Iff.rfl ⟨?_,?_⟩)
 ·rintro ⟨x,y,hx,hy,h1,h2,h3⟩;rw[eV p (by lia)] at h2 h3;exact ⟨x,y,hx,hy,h1,h2,h3⟩
 ·rintro ⟨x,y,hx,hy,h1,h2,h3⟩;rw[← eV p (by lia)] at h2 h3;exact ⟨x,y,hx,hy,h1,h2,h3⟩
theorem vQ {c:Circuit}{a v:Nat}(u:tJ c a v)(f:Frac):c[a]?≠some (.const f):=λq=>by
 rcases u with e|e|⟨_,_,_,_,e,_⟩<;>(rw[e] at q;cases q)
def vX (n:Nat)(c:Circuit)(i:Nat):CNode->Prop
 | .const f=>f=Frac.zero∨f=Frac.one
 | .yes v=>v<n
 | .no v=>v<n
 | .add a b=>a<i/\b<i/\sc n c a=sc n c b/\nz c a/\nz c b
 | .mul a b=>a<i/\b<i/\(∃ v k,v+(k+1)=n/\sc n c a=(v,1)/\sc n c b=(v+1,k)/\tJ c a v)/\nz c a/\nz c b
def Wf (n:Nat)(c:Circuit):Prop:=∀ i x,c[i]?=some x->vX n c i x
theorem gK {n:Nat}{c c':Circuit}(p:c <+: c'){i:Nat}(h:i<c.length):sc n c' i=sc n c i:=by
 unfold sc
 have:=eV (Q9 (N9 n) p) (i:=i) (by rw[eM];exact h)
 simp[List.getD,scs,this]
theorem jS {c c':Circuit}(p:c <+: c'){i:Nat}(h:i<c.length):nz c' i↔nz c i:=by
 unfold nz;rw[eV p h]
def scF (n:Nat)(c:Circuit):CNode->Sc
 | .const _=>(n,0)
 | .yes v=>(v,1)
 | .no v=>(v,1)
 | .add a _=>sc n c a
 | .mul a b=>((sc n c a).1,(sc n c b).2+1)
theorem sJ {n:Nat}{c:Circuit}{i:Nat}{x:CNode}(h:c[i]?=some x)(k:vX n c i x):sc n c i=scF n c x:=by
 have e:sc n c i=N9 n ((scs n c).take i) x:=by
  unfold sc;rw[List.getD,show (scs n c)[i]?=_ from uS (N9 n) h];rfl
 rw[e]
 cases x with
 | const f=>rfl
 | yes v=>rfl
 | no v=>rfl
 | add a b=>exact cP k.1
 | mul a b=>
  show ((((scs n c).take i).getD a (0,0)).1,(((scs n c).take i).getD b (0,0)).2+1)=_;rw[cP k.1,cP k.2.1];rfl
theorem AZ {n:Nat}{c c':Circuit}(p:c <+: c'){i:Nat}{x:CNode}(hi:i<=c.length):vX n c' i x↔vX n c i x:=by
 cases x with
 | const f=>exact Iff.rfl
 | yes v=>exact Iff.rfl
 | no v=>exact Iff.rfl
 | add a b=>
  refine ⟨λ⟨h1,h2,h3,h4,h5⟩=>⟨h1,h2,?_,?_,?_⟩,λ⟨h1,h2,h3,h4,h5⟩=>⟨h1,h2,?_,?_,?_⟩⟩
  ·rwa [gK p (by lia),gK p (by lia)] at h3
  ·exact (jS p (by lia)).mp h4
  ·exact (jS p (by lia)).mp h5
  ·rwa [gK p (by lia),gK p (by lia)]
  ·exact (jS p (by lia)).mpr h4
  ·exact (jS p (by lia)).mpr h5
 | mul a b=>
  refine ⟨λ⟨h1,h2,h3,h4,h5⟩=>⟨h1,h2,?_,?_,?_⟩,λ⟨h1,h2,h3,h4,h5⟩=>⟨h1,h2,?_,?_,?_⟩⟩
  ·rw[gK p (by lia),gK p (by lia)] at h3;obtain ⟨v,m,q,q1,q2,q3⟩:=h3;exact ⟨v,m,q,q1,q2,(CJ p (by lia)).mp q3⟩
  ·exact (jS p (by lia)).mp h4
  ·exact (jS p (by lia)).mp h5
  ·rw[gK p (by lia),gK p (by lia)];obtain ⟨v,m,q,q1,q2,q3⟩:=h3;exact ⟨v,m,q,q1,q2,(CJ p (by lia)).mpr q3⟩
  ·exact (jS p (by lia)).mpr h4
  ·exact (jS p (by lia)).mpr h5
theorem E4 {n:Nat}{c:Circuit}{x:CNode}(w:Wf n c)(k:vX n c c.length x):Wf n (put c x).1:=by
 by_cases h:x∈c
 ·obtain ⟨i,hi,e⟩:∃ i,∃ _:i<c.length,c.findIdx? (λm=>m==x)=some i:=by
   cases q:c.findIdx? (λm=>m==x) with
   | none=>exact absurd (List.findIdx?_eq_none_iff.mp q x h) (by simp)
   | some i=>exact ⟨i,(List.findIdx?_eq_some_iff_getElem.mp q).1,rfl⟩
  unfold put;rw[e];exact w
 ·rw[pQ h];intro i y hy;have p:c <+: c++[x]:=List.prefix_append _ _
  by_cases hi:i<c.length
  ·rw[List.getElem?_append_left hi] at hy;exact (AZ p (Nat.le_of_lt hi)).mpr (w i y hy)
  ·have e:i=c.length:=by
    have:=(List.getElem?_eq_some_iff.mp hy).1
    simp at this;lia
   subst e
   have:x=y:=by simpa using hy
   exact this▸(AZ p (Nat.le_refl _)).mpr k
structure Out (n:Nat)(c:Circuit)(r:Circuit×Nat)(s:Sc):Prop where
 wf:Wf n r.1
 nd:r.1.Nodup
 pre:c <+: r.1
 lt:r.2<r.1.length
 at_:nz r.1 r.2->sc n r.1 r.2=s
theorem lD {n:Nat}{c:Circuit}{x:CNode}{s:Sc}(w:Wf n c)(nd:c.Nodup)(k:vX n c c.length x)
  (hs:∀ c',c <+: c'->N9 n (scs n c') x=s):Out n c (put c x) s where
 wf:=E4 w k
 nd:=(bJ nd x).nd
 pre:=(bJ nd x).pre
 lt:=(bJ nd x).lt
 at_:=λ_=>by
  have g:=mG nd x;have kk:=E4 w k _ _ g;rw[sJ g kk]
  have:=hs _ (bJ nd x).pre
  cases x<;>exact this
theorem uG {c:Circuit}{a:Nat}(h:¬ isConst c a Frac.zero=true):nz c a:=λe=>h (by unfold isConst;rw[e];simp)
theorem FA {n:Nat}{c:Circuit}{a b:Nat}{s:Sc}(w:Wf n c)(nd:c.Nodup)(ha:a<c.length)(hb:b<c.length)(sa:nz c a->sc n c a=s)(sb:nz c b->sc n c b=s):Out n c (mkAdd c a b) s:=by
 unfold mkAdd
 split
 ·exact ⟨w,nd,List.prefix_refl _,hb,sb⟩
 ·rename_i h1
  split
  ·exact ⟨w,nd,List.prefix_refl _,ha,sa⟩
  ·rename_i h2;have za:=uG h1;have zb:=uG h2;exact lD w nd ⟨ha,hb,(sa za).trans (sb zb).symm,za,zb⟩ λc' p=>(gK p ha).trans (sa za)
theorem yJ {n:Nat}{c:Circuit}{a b v k:Nat}(hv:v+(k+1)=n)(w:Wf n c)(nd:c.Nodup)(ha:a<c.length)(hb:b<c.length)(un:tJ c a v)(sa:sc n c a=(v,1))(sb:nz c b->sc n c b=(v+1,k))
  (one:c[b]?=some (.const Frac.one)->k=0):Out n c (mkMul c a b) (v,k+1):=by
 unfold mkMul
 split
 ·exact ⟨E4 w (.inl rfl),(bJ nd _).nd,(bJ nd _).pre,(bJ nd _).lt,λq=>absurd (mG nd _) q⟩
 ·rename_i h0;have na:=vQ un;have za:nz c a:=na _;have zb:nz c b:=uG λq=>h0 (.inr q)
  split
  ·rename_i h1;exact absurd (by unfold isConst at h1;simpa using h1) (na Frac.one)
  ·split
   ·rename_i h2
    have:=one (by unfold isConst at h2;simpa using h2)
    subst this;exact ⟨w,nd,List.prefix_refl _,ha,λ_=>sa⟩
   ·exact lD w nd ⟨ha,hb,⟨v,k,hv,sa,sb zb,un⟩,za,zb⟩ λc' p=>by
     show (((scs n c').getD a (0,0)).1,((scs n c').getD b (0,0)).2+1)=_;have e1:(scs n c').getD a (0,0)=(v,1):=(gK p ha).trans sa;have e2:(scs n c').getD b (0,0)=(v+1,k):=(gK p hb).trans (sb zb);rw[e1,e2]
theorem Out.trans {n:Nat}{c:Circuit}{r r':Circuit×Nat}{s s':Sc}(h:Out n c r s)(h':Out n r.1 r' s'):Out n c r' s':=⟨h'.wf,h'.nd,h.pre.trans h'.pre,h'.lt,h'.at_⟩
theorem Out.keep {n:Nat}{c c':Circuit}{r:Circuit×Nat}{s:Sc}(h:Out n c r s)(p:r.1 <+: c'):r.2<c'.length/\(nz c' r.2->sc n c' r.2=s):=
 ⟨bK p h.lt,λq=>(gK p h.lt).trans (h.at_ ((jS p h.lt).mp q))⟩
theorem qY {n:Nat}{c:Circuit}{b:Nat}{s:Sc}(w:Wf n c)(sb:nz c b->sc n c b=s)(h:c[b]?=some (.const Frac.one)):s.2=0:=by
 have z:nz c b:=λq=>by rw[h] at q;exact absurd (Option.some.inj q) (by decide)
 rw[← sb z,sJ h (w _ _ h)];rfl
theorem sU {n:Nat}:∀ (m v t:Nat) {c:Circuit},v+m=n->Wf n c->c.Nodup->Out n c (mkT m v t c) (v,m)
 | 0,v,t,c,hv,w,nd=>by
  show Out n c (put c _) _;refine lD w nd ?_ λ_ _=>by show (n,0)=(v,0);rw[← hv];rfl
  show _∨_
  split
  ·exact .inr rfl
  ·exact .inl rfl
 | m+1,v,t,c,hv,w,nd=>by
  unfold mkT
  have lit:∀ {c:Circuit},Wf n c->c.Nodup->Out n c (put c (.no v)) (v,1)/\Out n c (put c (.yes v)) (v,1):=λw nd=>
   ⟨lD w nd (show v<n by lia) λ_ _=>rfl,lD w nd (show v<n by lia) λ_ _=>rfl⟩
  have lno:∀ {c c':Circuit},c.Nodup->(put c (.no v)).1 <+: c'->c'[(put c (.no v)).2]?=some (.no v):=λnd p=>by rw[eV p (bJ nd _).lt];exact mG nd _
  have lyes:∀ {c c':Circuit},c.Nodup->(put c (.yes v)).1 <+: c'->c'[(put c (.yes v)).2]?=some (.yes v):=λnd p=>by rw[eV p (bJ nd _).lt];exact mG nd _
  split
  ·have A:=sU m (v+1) (t%pw m) (by lia) w nd;generalize mkT m (v+1) (t%pw m) c=a at A;have X:=(lit A.wf A.nd).1;have Y:=(lit X.wf X.nd).2;have x1:=lno A.nd Y.pre;have y1:=lyes X.nd (List.prefix_refl _);have zx:nz (put (put a.1 (.no v)).1 (.yes v)).1 (put a.1 (.no v)).2:=λq=>by rw[x1] at q;cases q
   have zy:nz (put (put a.1 (.no v)).1 (.yes v)).1 (put (put a.1 (.no v)).1 (.yes v)).2:=λq=>by rw[y1] at q;cases q
   have T:=FA (n:=n) (s:=(v,1)) Y.wf Y.nd (X.keep Y.pre).1 Y.lt (X.keep Y.pre).2 Y.at_;refine A.trans (X.trans (Y.trans (T.trans ?_)));show Out n _ (mkMul (mkAdd _ _ _).1 (mkAdd _ _ _).2 a.2) _;have ka:=A.keep ((X.pre.trans Y.pre).trans T.pre)
   have tn:tJ (mkAdd (put (put a.1 (.no v)).1 (.yes v)).1 (put a.1 (.no v)).2 (put (put a.1 (.no v)).1 (.yes v)).2).1 (mkAdd (put (put a.1 (.no v)).1 (.yes v)).1 (put a.1 (.no v)).2 (put (put a.1 (.no v)).1 (.yes v)).2).2 v:=by
    have h1:¬ isConst (put (put a.1 (.no v)).1 (.yes v)).1 (put a.1 (.no v)).2 Frac.zero=true:=by unfold isConst;rw[x1];simp
    have h2:¬ isConst (put (put a.1 (.no v)).1 (.yes v)).1 (put (put a.1 (.no v)).1 (.yes v)).2 Frac.zero=true:=by unfold isConst;rw[y1];simp
    have q:=T.wf
    revert q
    unfold mkAdd;rw[if_neg h1,if_neg h2];intro q;have g:=mG Y.nd (.add (put a.1 (.no v)).2 (put (put a.1 (.no v)).1 (.yes v)).2);have kk:=q _ _ g;have pp:=(bJ Y.nd (.add (put a.1 (.no v)).2 (put (put a.1 (.no v)).1 (.yes v)).2)).pre;exact .inr (.inr ⟨_,_,kk.1,kk.2.1,g,by rw[eV pp (X.keep Y.pre).1];exact x1,by rw[eV pp Y.lt];exact y1⟩)
   exact yJ hv T.wf T.nd T.lt ka.1 tn (T.at_ (vQ tn _)) ka.2 λq=>qY T.wf ka.2 q
  ·have A:=sU m (v+1) (t%pw m) (by lia) w nd;have B:=sU m (v+1) (t / pw m) (by lia) A.wf A.nd;show Out n c (choice v (mkT m (v+1) (t / pw m) (mkT m (v+1) (t%pw m) c).1).1 (mkT m (v+1) (t%pw m) c).2 (mkT m (v+1) (t / pw m) (mkT m (v+1) (t%pw m) c).1).2) _;generalize mkT m (v+1) (t%pw m) c=a at A B;generalize mkT m (v+1) (t / pw m) a.1=b at B;have X:=(lit B.wf B.nd).1;have ka:=A.keep (B.pre.trans X.pre);have x1:=lno B.nd (List.prefix_refl _);have P:=yJ (a:=(put b.1 (.no v)).2) (b:=a.2) hv X.wf X.nd X.lt ka.1 (.inr (.inl x1)) (X.at_ λq=>by rw[x1] at q;cases q) ka.2 λq=>qY X.wf ka.2 q;have Y:=(lit P.wf P.nd).2;have y1:=lyes P.nd (List.prefix_refl _);have kb:=B.keep ((X.pre.trans P.pre).trans Y.pre);have Q:=yJ (a:=(put (mkMul (put b.1 (.no v)).1 (put b.1 (.no v)).2 a.2).1 (.yes v)).2) (b:=b.2) hv Y.wf Y.nd Y.lt kb.1 (.inl y1) (Y.at_ λq=>by rw[y1] at q;cases q) kb.2 λq=>qY Y.wf kb.2 q;have kp:=P.keep (Y.pre.trans Q.pre);exact A.trans (B.trans (X.trans (P.trans (Y.trans (Q.trans (FA Q.wf Q.nd kp.1 Q.lt kp.2 Q.at_))))))
theorem RX {n:Nat}{c:Circuit}(w:Wf n c):∀ (i:Nat) {x:CNode},c[i]?=some x->(sc n c i).1+(sc n c i).2<=n:=by
 intro i
 induction i using Nat.strongRecOn with
 | _ i ih=>
  intro x h;have k:=w i x h;have hi:=(List.getElem?_eq_some_iff.mp h).1;rw[sJ h k]
  cases x with
  | const f=>exact Nat.le_refl _
  | yes v=>exact k
  | no v=>exact k
  | add a b=>exact ih a k.1 (List.getElem?_eq_getElem (Nat.lt_trans k.1 hi))
  | mul a b=>
   obtain ⟨_,_,⟨v,m,e,s1,s2,_⟩,_⟩:=k;show (sc n c a).1+((sc n c b).2+1)<=n;rw[s1,s2];show v+(m+1)<=n;lia
end Mth
namespace Mth
open VaprbBase Vaprbi
structure RW where
 y:Nat
 n:Nat
 b:Nat
deriving DecidableEq
def RW.spec (w:RW):Weight:=⟨frac w.y w.b,frac w.n w.b⟩
def rw0:RW:=⟨0,0,1⟩
def bT (ws:List RW):List Weight:=ws.map RW.spec
def pR (ws:List RW)(l:List (Nat×Nat)):CNode->Nat×Nat
 | .const f=>(f.num.toNat,f.den)
 | .yes v=>((ws.getD v rw0).y,(ws.getD v rw0).b)
 | .no v=>((ws.getD v rw0).n,(ws.getD v rw0).b)
 | .add a b=>((l.getD a (0,1)).1+(l.getD b (0,1)).1,(l.getD a (0,1)).2)
 | .mul a b=>((l.getD a (0,1)).1*(l.getD b (0,1)).1,(l.getD a (0,1)).2*(l.getD b (0,1)).2)
def dX (ws:List RW)(c:Circuit):List (Nat×Nat):=run (pR ws) c
def rv (ws:List RW)(c:Circuit)(i:Nat):Nat×Nat:=(dX ws c).getD i (0,1)
def Wok (ws:List RW):Prop:=∀ w∈ws,0<w.b
def bot (ws:List RW)(v:Nat):Nat:=(ws.getD v rw0).b
def cap (ws:List RW)(v:Nat):Nat:=(ws.getD v rw0).y+(ws.getD v rw0).n+2
def den (n:Nat)(ws:List RW)(c:Circuit)(i:Nat):Nat:=pr (bot ws) (sc n c i).1 (sc n c i).2
def lim (n:Nat)(ws:List RW)(c:Circuit)(i:Nat):Nat:=pr (cap ws) (sc n c i).1 (sc n c i).2
theorem FD {ws:List RW}(h:Wok ws)(v:Nat):0<bot ws v:=by
 unfold bot;rw[List.getD]
 cases q:ws[v]? with
 | none=>exact Nat.one_pos
 | some w=>exact h w (List.mem_of_getElem? q)
theorem eF {n:Nat}{ws:List RW}{c:Circuit}{i:Nat}(h:Wok ws):0<den n ws c i:=yR λv _ _=>FD h v
def rvF (ws:List RW)(c:Circuit):CNode->Nat×Nat
 | .const f=>(f.num.toNat,f.den)
 | .yes v=>((ws.getD v rw0).y,(ws.getD v rw0).b)
 | .no v=>((ws.getD v rw0).n,(ws.getD v rw0).b)
 | .add a b=>((rv ws c a).1+(rv ws c b).1,(rv ws c a).2)
 | .mul a b=>((rv ws c a).1*(rv ws c b).1,(rv ws c a).2*(rv ws c b).2)
theorem mT {ws:List RW}{c:Circuit}{i:Nat}{n:Nat}{x:CNode}(h:c[i]?=some x)(k:vX n c i x):rv ws c i=rvF ws c x:=by
 have e:rv ws c i=pR ws ((dX ws c).take i) x:=by
  unfold rv;rw[List.getD,show (dX ws c)[i]?=_ from uS (pR ws) h];rfl
 rw[e]
 cases x with
 | const f=>rfl
 | yes v=>rfl
 | no v=>rfl
 | add a b=>
  show ((((dX ws c).take i).getD a (0,1)).1+(((dX ws c).take i).getD b (0,1)).1,(((dX ws c).take i).getD a (0,1)).2)=_;rw[cP k.1,cP k.2.1];rfl
 | mul a b=>
  show ((((dX ws c).take i).getD a (0,1)).1*(((dX ws c).take i).getD b (0,1)).1,(((dX ws c).take i).getD a (0,1)).2*(((dX ws c).take i).getD b (0,1)).2)=_;rw[cP k.1,cP k.2.1];rfl
def sv (ws:List Weight)(c:Circuit)(i:Nat):Frac:=(values ws c)[i]?.getD Frac.zero
def svF (ws:List Weight)(c:Circuit):CNode->Frac
 | .const f=>f
 | .yes v=>(weightAt ws v).yes
 | .no v=>(weightAt ws v).no
 | .add a b=>(sv ws c a).add (sv ws c b)
 | .mul a b=>(sv ws c a).mul (sv ws c b)
theorem WI {ws:List Weight}{c:Circuit}{i:Nat}{n:Nat}{x:CNode}(h:c[i]?=some x)(k:vX n c i x):sv ws c i=svF ws c x:=by
 have e:sv ws c i=nodeValue ws ((values ws c).take i) x:=by
  unfold sv;rw[show (values ws c)[i]?=_ from uS (nodeValue ws) h];rfl
 have t:∀ {j:Nat},j<i->((values ws c).take i)[j]?.getD Frac.zero=sv ws c j:=λh=>cP h;rw[e]
 cases x with
 | const f=>rfl
 | yes v=>rfl
 | no v=>rfl
 | add a b=>
  show (((values ws c).take i)[a]?.getD Frac.zero).add (((values ws c).take i)[b]?.getD Frac.zero)=_;rw[t k.1,t k.2.1];rfl
 | mul a b=>
  show (((values ws c).take i)[a]?.getD Frac.zero).mul (((values ws c).take i)[b]?.getD Frac.zero)=_;rw[t k.1,t k.2.1];rfl
theorem jG {ws:List RW}{v:Nat}(h:v<ws.length):weightAt (bT ws) v=(ws.getD v rw0).spec:=by
 unfold weightAt bT;rw[List.getElem?_map,List.getD,List.getElem?_eq_getElem h];rfl
theorem lH {n:Nat}{ws:List RW}{c:Circuit}(hn:ws.length=n)(hw:Wok ws)(w:Wf n c):∀ (i:Nat) {x:CNode},c[i]?=some x->
  (rv ws c i).2=den n ws c i/\sv (bT ws) c i=frac (rv ws c i).1 (rv ws c i).2/\(rv ws c i).1<=2^i*lim n ws c i:=by
 intro i
 induction i using Nat.strongRecOn with
 | _ i ih=>
  intro x h;have k:=w i x h;have hi:=(List.getElem?_eq_some_iff.mp h).1;have g:∀ {j},j<i->c[j]?=some (c[j]?.getD (.yes 0)):=λhj=>by rw[List.getElem?_eq_getElem (Nat.lt_trans hj hi)];rfl
  unfold den lim;rw[sJ h k,mT h k,WI h k]
  cases x with
  | const f=>
   rcases k with e|e
   ·subst e;exact ⟨rfl,by show Frac.zero=frac 0 1;decide,Nat.zero_le _⟩
   ·subst e;exact ⟨rfl,by show Frac.one=frac 1 1;decide,Nat.mul_pos (Nat.two_pow_pos _) Nat.one_pos⟩
  | yes v=>
   have k:v<n:=k;refine ⟨by show _=pr _ v 1;rw[fM];rfl,by show (weightAt (bT ws) v).yes=_;rw[jG (by lia)];rfl,?_⟩;show (ws.getD v rw0).y<=2^i*pr _ v 1;rw[fM];refine Nat.le_trans ?_ (Nat.le_mul_of_pos_left _ (Nat.two_pow_pos i));unfold cap;lia
  | no v=>
   have k:v<n:=k;refine ⟨by show _=pr _ v 1;rw[fM];rfl,by show (weightAt (bT ws) v).no=_;rw[jG (by lia)];rfl,?_⟩;show (ws.getD v rw0).n<=2^i*pr _ v 1;rw[fM];refine Nat.le_trans ?_ (Nat.le_mul_of_pos_left _ (Nat.two_pow_pos i));unfold cap;lia
  | add a b=>
   obtain ⟨ha,hb,s,_⟩:=k;obtain ⟨a1,a2,a3⟩:=ih a ha (g ha);obtain ⟨b1,b2,b3⟩:=ih b hb (g hb);have pa:0<(rv ws c a).2:=a1▸eF hw;have eb:(rv ws c b).2=(rv ws c a).2:=by rw[a1,b1];unfold den;rw[s]
   refine ⟨a1,?_,?_⟩
   ·show (sv _ c a).add (sv _ c b)=frac (((rv ws c a).1+(rv ws c b).1:Nat):Int) _;rw[a2,b2,eb,mS pa,Int.natCast_add];rfl
   ·show (rv ws c a).1+(rv ws c b).1<=2^i*lim n ws c a;have lb:lim n ws c b=lim n ws c a:=by unfold lim;rw[s]
    rw[lb] at b3;have h1:(rv ws c a).1<=2^(i-1)*lim n ws c a:=Nat.le_trans a3 (Nat.mul_le_mul_right _ (Nat.pow_le_pow_right (by decide) (by lia)));have h2:(rv ws c b).1<=2^(i-1)*lim n ws c a:=Nat.le_trans b3 (Nat.mul_le_mul_right _ (Nat.pow_le_pow_right (by decide) (by lia)));have h3:2^i=2^(i-1)*2:=by rw[← Nat.pow_succ];congr 1;lia
    rw[h3,Nat.mul_assoc,Nat.mul_comm 2,← Nat.mul_assoc];lia
  | mul a b=>
   obtain ⟨ha,hb,⟨v,m,e,s1,s2,un⟩,_⟩:=k;obtain ⟨a1,a2,a3⟩:=ih a ha (g ha);obtain ⟨b1,b2,b3⟩:=ih b hb (g hb);have pa:0<(rv ws c a).2:=a1▸eF hw;have pb:0<(rv ws c b).2:=b1▸eF hw;refine ⟨?_,?_,?_⟩
   ·show (rv ws c a).2*(rv ws c b).2=pr _ (sc n c a).1 ((sc n c b).2+1);rw[a1,b1];unfold den;rw[s1,s2,fM];rfl
   ·show (sv _ c a).mul (sv _ c b)=frac (((rv ws c a).1*(rv ws c b).1:Nat):Int) _;rw[a2,b2,kY pa pb,Int.natCast_mul];rfl
   ·show (rv ws c a).1*(rv ws c b).1<=2^i*pr _ (sc n c a).1 ((sc n c b).2+1)
    have ua:(rv ws c a).1<=cap ws v:=by
     have ka:=w a _ (g ha)
     rcases un with q|q|⟨x,y,hx,hy,q,qx,qy⟩
     ·rw[mT q (w a _ q)];show (ws.getD v rw0).y<=_;unfold cap;lia
     ·rw[mT q (w a _ q)];show (ws.getD v rw0).n<=_;unfold cap;lia
     ·rw[mT q (w a _ q)];show (rv ws c x).1+(rv ws c y).1<=_;rw[mT qx (w x _ qx),mT qy (w y _ qy)];show (ws.getD v rw0).n+(ws.getD v rw0).y<=_;unfold cap;lia
    refine Nat.le_trans (Nat.mul_le_mul ua b3) ?_;unfold lim;rw[s1,s2,Nat.mul_left_comm];exact Nat.mul_le_mul (Nat.pow_le_pow_right (by decide) (by lia)) (Nat.le_refl _)
abbrev Gr:=Nat×Nat×Nat
def gr0:Gr:=(0,1,0)
def pA (x y:Gr):Gr:=if y.1<x.1 then x else if x.1<y.1 then y else (x.1,x.2.1,x.2.2+y.2.2)
def mY (ws:List RW)(l:List Gr):CNode->Gr
 | .const f=>(f.num.toNat,f.den,f.num.toNat)
 | .yes v=>((ws.getD v rw0).y,(ws.getD v rw0).b,1)
 | .no v=>((ws.getD v rw0).n,(ws.getD v rw0).b,1)
 | .add a b=>pA (l.getD a gr0) (l.getD b gr0)
 | .mul a b=>((l.getD a gr0).1*(l.getD b gr0).1,(l.getD a gr0).2.1*(l.getD b gr0).2.1,(l.getD a gr0).2.2*(l.getD b gr0).2.2)
def wM (ws:List RW)(c:Circuit):List Gr:=run (mY ws) c
def gv (ws:List RW)(c:Circuit)(i:Nat):Gr:=(wM ws c).getD i gr0
def gvF (ws:List RW)(c:Circuit):CNode->Gr
 | .const f=>(f.num.toNat,f.den,f.num.toNat)
 | .yes v=>((ws.getD v rw0).y,(ws.getD v rw0).b,1)
 | .no v=>((ws.getD v rw0).n,(ws.getD v rw0).b,1)
 | .add a b=>pA (gv ws c a) (gv ws c b)
 | .mul a b=>((gv ws c a).1*(gv ws c b).1,(gv ws c a).2.1*(gv ws c b).2.1,(gv ws c a).2.2*(gv ws c b).2.2)
theorem wL {ws:List RW}{c:Circuit}{i:Nat}{n:Nat}{x:CNode}(h:c[i]?=some x)(k:vX n c i x):gv ws c i=gvF ws c x:=by
 have e:gv ws c i=mY ws ((wM ws c).take i) x:=by
  unfold gv;rw[List.getD,show (wM ws c)[i]?=_ from uS (mY ws) h];rfl
 have t:∀ {j:Nat},j<i->((wM ws c).take i).getD j gr0=gv ws c j:=λh=>cP h;rw[e]
 cases x with
 | const f=>rfl
 | yes v=>rfl
 | no v=>rfl
 | add a b=>simp only[mY,gvF,t k.1,t k.2.1]
 | mul a b=>simp only[mY,gvF,t k.1,t k.2.1]
def mv (ws:List Weight)(c:Circuit)(i:Nat):Frac×Nat:=(maxima ws c)[i]?.getD (Frac.zero,0)
def P3 (x y:Frac×Nat):Frac×Nat:=if x.2=0 then y else if y.2=0 then x else if x.1.lt y.1=true then y else if y.1.lt x.1=true then x else (x.1,x.2+y.2)
def mvF (ws:List Weight)(c:Circuit):CNode->Frac×Nat
 | .const f=>(f,if f.num=0 then 0 else 1)
 | .yes v=>((weightAt ws v).yes,1)
 | .no v=>((weightAt ws v).no,1)
 | .add a b=>P3 (mv ws c a) (mv ws c b)
 | .mul a b=>((mv ws c a).1.mul (mv ws c b).1,(mv ws c a).2*(mv ws c b).2)
theorem VR {ws:List Weight}{c:Circuit}{i:Nat}{n:Nat}{x:CNode}(h:c[i]?=some x)(k:vX n c i x):mv ws c i=mvF ws c x:=by
 have e:mv ws c i=maxNode ws ((maxima ws c).take i) x:=by
  unfold mv;rw[show (maxima ws c)[i]?=_ from uS (maxNode ws) h];rfl
 have t:∀ {j:Nat},j<i->((maxima ws c).take i)[j]?.getD (Frac.zero,0)=mv ws c j:=λh=>cP h;rw[e]
 cases x with
 | const f=>rfl
 | yes v=>rfl
 | no v=>rfl
 | add a b=>simp only[maxNode,mvF,P3,t k.1,t k.2.1]
 | mul a b=>simp only[maxNode,mvF,t k.1,t k.2.1]
theorem AV {n:Nat}{ws:List RW}{c:Circuit}(hn:ws.length=n)(hw:Wok ws)(w:Wf n c):∀ (i:Nat) {x:CNode},c[i]?=some x->
  (gv ws c i).2.1=den n ws c i/\mv (bT ws) c i=(frac (gv ws c i).1 (gv ws c i).2.1,(gv ws c i).2.2)/\(gv ws c i).1<=lim n ws c i/\(nz c i->0<(gv ws c i).2.2)/\(gv ws c i).2.2<=2^i*2^(sc n c i).2:=by
 intro i
 induction i using Nat.strongRecOn with
 | _ i ih=>
  intro x h;have k:=w i x h;have hi:=(List.getElem?_eq_some_iff.mp h).1;have g:∀ {j},j<i->c[j]?=some (c[j]?.getD (.yes 0)):=λhj=>by rw[List.getElem?_eq_getElem (Nat.lt_trans hj hi)];rfl
  unfold den lim nz;rw[h,sJ h k,wL h k,VR h k]
  cases x with
  | const f=>
   rcases k with e|e
   ·subst e;exact ⟨rfl,by show (Frac.zero,0)=(frac 0 1,0);decide,Nat.zero_le _,λq=>absurd rfl q,Nat.zero_le _⟩
   ·subst e;exact ⟨rfl,by show (Frac.one,1)=(frac 1 1,1);decide,Nat.le_refl _,λ_=>Nat.one_pos,Nat.mul_pos (Nat.two_pow_pos _) (Nat.two_pow_pos _)⟩
  | yes v=>
   have k:v<n:=k;refine ⟨by show _=pr _ v 1;rw[fM];rfl,by show ((weightAt (bT ws) v).yes,1)=_;rw[jG (by lia)];rfl,?_,λ_=>Nat.one_pos,Nat.mul_pos (Nat.two_pow_pos _) (Nat.two_pow_pos _)⟩;show (ws.getD v rw0).y<=pr _ v 1;rw[fM];unfold cap;lia
  | no v=>
   have k:v<n:=k;refine ⟨by show _=pr _ v 1;rw[fM];rfl,by show ((weightAt (bT ws) v).no,1)=_;rw[jG (by lia)];rfl,?_,λ_=>Nat.one_pos,Nat.mul_pos (Nat.two_pow_pos _) (Nat.two_pow_pos _)⟩;show (ws.getD v rw0).n<=pr _ v 1;rw[fM];unfold cap;lia
  | add a b=>
   obtain ⟨ha,hb,s,za,zb⟩:=k;obtain ⟨a1,a2,a3,a4,a5⟩:=ih a ha (g ha);obtain ⟨b1,b2,b3,b4,b5⟩:=ih b hb (g hb);have a4:=a4 za;have b4:=b4 zb;have pa:0<(gv ws c a).2.1:=a1▸eF hw;have eb:(gv ws c b).2.1=(gv ws c a).2.1:=by rw[a1,b1];unfold den;rw[s]
   have lb:lim n ws c b=lim n ws c a:=by unfold lim;rw[s]
   rw[lb] at b3;rw[← s] at b5;have h3:2^i=2^(i-1)*2:=by rw[← Nat.pow_succ];congr 1;lia
   have a6:(gv ws c a).2.2<=2^(i-1)*2^(sc n c a).2:=Nat.le_trans a5 (Nat.mul_le_mul_right _ (Nat.pow_le_pow_right (by decide) (by lia)));have b6:(gv ws c b).2.2<=2^(i-1)*2^(sc n c a).2:=Nat.le_trans b5 (Nat.mul_le_mul_right _ (Nat.pow_le_pow_right (by decide) (by lia)));have e6:2^i*2^(sc n c a).2=2^(i-1)*2^(sc n c a).2*2:=by rw[h3,Nat.mul_right_comm]
   have la:(frac ((gv ws c a).1:Int) (gv ws c a).2.1).lt (frac ((gv ws c b).1:Int) (gv ws c b).2.1)=decide ((gv ws c a).1<(gv ws c b).1):=by
    rw[eb,FS pa pa]
    have:((gv ws c a).1:Int)*((gv ws c a).2.1:Int)<(gv ws c b).1*((gv ws c a).2.1:Int)↔(gv ws c a).1<(gv ws c b).1:=by
     rw[← Int.natCast_mul,← Int.natCast_mul,Int.ofNat_lt,Nat.mul_lt_mul_right pa]
    simp only[this]
   have lb:(frac ((gv ws c b).1:Int) (gv ws c b).2.1).lt (frac ((gv ws c a).1:Int) (gv ws c a).2.1)=decide ((gv ws c b).1<(gv ws c a).1):=by
    rw[eb,FS pa pa]
    have:((gv ws c b).1:Int)*((gv ws c a).2.1:Int)<(gv ws c a).1*((gv ws c a).2.1:Int)↔(gv ws c b).1<(gv ws c a).1:=by
     rw[← Int.natCast_mul,← Int.natCast_mul,Int.ofNat_lt,Nat.mul_lt_mul_right pa]
    simp only[this]
   show (pA (gv ws c a) (gv ws c b)).2.1=den n ws c a/\P3 (mv _ c a) (mv _ c b)=(frac (pA (gv ws c a) (gv ws c b)).1 (pA (gv ws c a) (gv ws c b)).2.1,(pA (gv ws c a) (gv ws c b)).2.2)/\(pA (gv ws c a) (gv ws c b)).1<=lim n ws c a/\(_->0<(pA (gv ws c a) (gv ws c b)).2.2)/\(pA (gv ws c a) (gv ws c b)).2.2<=2^i*2^(sc n c a).2;rw[a2,b2,e6];unfold P3 pA;simp only[la,lb,decide_eq_true_eq];rw[if_neg (Nat.ne_of_gt a4),if_neg (Nat.ne_of_gt b4)]
   by_cases c1:(gv ws c b).1<(gv ws c a).1
   ·rw[if_pos c1,if_neg (by lia),if_pos c1];exact ⟨a1,rfl,a3,λ_=>a4,by lia⟩
   ·rw[if_neg c1]
    by_cases c2:(gv ws c a).1<(gv ws c b).1
    ·rw[if_pos c2,if_pos c2];exact ⟨eb.trans a1,rfl,b3,λ_=>b4,by lia⟩
    ·rw[if_neg c2,if_neg c2,if_neg c1];exact ⟨a1,rfl,a3,λ_=>by show 0<_+_;lia,by show _+_<=_;lia⟩
  | mul a b=>
   obtain ⟨ha,hb,⟨v,m,e,s1,s2,un⟩,za,zb⟩:=k;obtain ⟨a1,a2,a3,a4,a5⟩:=ih a ha (g ha);obtain ⟨b1,b2,b3,b4,b5⟩:=ih b hb (g hb);have pa:0<(gv ws c a).2.1:=a1▸eF hw;have pb:0<(gv ws c b).2.1:=b1▸eF hw;refine ⟨?_,?_,?_,λ_=>Nat.mul_pos (a4 za) (b4 zb),?_⟩
   ·show (gv ws c a).2.1*(gv ws c b).2.1=pr _ (sc n c a).1 ((sc n c b).2+1);rw[a1,b1];unfold den;rw[s1,s2,fM];rfl
   ·show ((mv _ c a).1.mul (mv _ c b).1,(mv _ c a).2*(mv _ c b).2)=(frac (((gv ws c a).1*(gv ws c b).1:Nat):Int) _,_)
    rw[a2,b2,kY pa pb,Int.natCast_mul];rfl
   ·show (gv ws c a).1*(gv ws c b).1<=pr _ (sc n c a).1 ((sc n c b).2+1);refine Nat.le_trans (Nat.mul_le_mul a3 b3) ?_;unfold lim;rw[s1,s2,fM];exact Nat.le_refl _
   ·show (gv ws c a).2.2*(gv ws c b).2.2<=2^i*2^((sc n c b).2+1)
    have ua:(gv ws c a).2.2<=2:=by
     rcases un with q|q|⟨x,y,hx,hy,q,qx,qy⟩
     ·rw[wL q (w a _ q)];exact Nat.le_succ 1
     ·rw[wL q (w a _ q)];exact Nat.le_succ 1
     ·rw[wL q (w a _ q)];show (pA (gv ws c x) (gv ws c y)).2.2<=_;have ex:(gv ws c x).2.2=1:=by rw[wL qx (w x _ qx)];rfl
      have ey:(gv ws c y).2.2=1:=by rw[wL qy (w y _ qy)];rfl
      unfold pA
      split
      ·lia
      ·split
       ·lia
       ·show _+_<=_;lia
    refine Nat.le_trans (Nat.mul_le_mul ua b5) ?_;rw[Nat.pow_succ 2 (sc n c b).2,Nat.mul_comm 2,Nat.mul_assoc];exact Nat.mul_le_mul (Nat.pow_le_pow_right (by decide) (by lia)) (Nat.le_refl _)
end Mth
namespace Mth
open VaprbBase Vaprbi
abbrev NN:=Nat×Nat
def rTo (l:List NN)(i:Nat)(f:NN):List NN:=l.set i (if (l.getD i (0,1)).1=0 then f else ((l.getD i (0,1)).1+f.1,(l.getD i (0,1)).2))
def MU (vals:List NN)(flow:NN)(l:List NN):CNode->List NN
 | .add a b=>rTo (rTo l a flow) b flow
 | .mul a b=>rTo (rTo l a (flow.1*(vals.getD b (0,1)).1,flow.2*(vals.getD b (0,1)).2)) b (flow.1*(vals.getD a (0,1)).1,flow.2*(vals.getD a (0,1)).2)
 | _=>l
def GZ (c:Circuit)(vals:List NN)(k:Nat)(l:List NN):List NN:=match c[k]? with
 | some x=>MU vals (l.getD k (0,1)) l x
 | none=>l
def uQ (c:Circuit)(vals:List NN):Nat->List NN->List NN
 | 0,l=>l
 | k+1,l=>uQ c vals k (GZ c vals k l)
def rD (c:Circuit)(r:Nat):List NN:=(List.replicate c.length (0,1)).set r (1,1)
def bU (ws:List RW)(m:Made):List NN:=uQ m.nodes (dX ws m.nodes) m.nodes.length (rD m.nodes m.root)
def up (ws:List RW):List RW:=ws.map λw=>⟨w.y+1,w.n+1,w.b⟩
def V (ws:List RW)(c:Circuit)(i:Nat):Nat:=(rv (up ws) c i).1
theorem F3 {ws:List RW}{v:Nat}(h:v<ws.length):(up ws).getD v rw0=⟨(ws.getD v rw0).y+1,(ws.getD v rw0).n+1,(ws.getD v rw0).b⟩:=by
 unfold up;simp[List.getD,List.getElem?_map,List.getElem?_eq_getElem h]
theorem OB (ws:List RW):(up ws).length=ws.length:=List.length_map _
theorem OI {n:Nat}{ws:List RW}{c:Circuit}(hn:ws.length=n)(w:Wf n c):∀ (i:Nat) {x:CNode},c[i]?=some x->(rv ws c i).1<=V ws c i/\(nz c i->0<V ws c i):=by
 intro i
 induction i using Nat.strongRecOn with
 | _ i ih=>
  intro x h;have k:=w i x h;have hi:=(List.getElem?_eq_some_iff.mp h).1;have g:∀ {j},j<i->c[j]?=some (c[j]?.getD (.yes 0)):=λhj=>by rw[List.getElem?_eq_getElem (Nat.lt_trans hj hi)];rfl
  unfold V nz;rw[h,mT h k,mT h k]
  cases x with
  | const f=>
   refine ⟨Nat.le_refl _,λq=>?_⟩
   rcases k with e|e
   ·subst e;exact absurd rfl q
   ·subst e;exact Nat.one_pos
  | yes v=>
   have k:v<n:=k
   show (ws.getD v rw0).y<=((up ws).getD v rw0).y/\(_->0<((up ws).getD v rw0).y)
   rw[F3 (by lia)];exact ⟨Nat.le_succ _,λ_=>Nat.succ_pos _⟩
  | no v=>
   have k:v<n:=k
   show (ws.getD v rw0).n<=((up ws).getD v rw0).n/\(_->0<((up ws).getD v rw0).n)
   rw[F3 (by lia)];exact ⟨Nat.le_succ _,λ_=>Nat.succ_pos _⟩
  | add a b=>
   obtain ⟨ha,hb,_,za,zb⟩:=k;have A:=ih a ha (g ha);have B:=ih b hb (g hb);exact ⟨Nat.add_le_add A.1 B.1,λ_=>Nat.add_pos_left (A.2 za) _⟩
  | mul a b=>
   obtain ⟨ha,hb,_,za,zb⟩:=k;have A:=ih a ha (g ha);have B:=ih b hb (g hb);exact ⟨Nat.mul_le_mul A.1 B.1,λ_=>Nat.mul_pos (A.2 za) (B.2 zb)⟩
structure jH (n:Nat)(ws:List RW)(c:Circuit)(r B:Nat)(f:NN)(F:Frac)(i:Nat):Prop where
 pos:0<f.2
 eq:F=frac f.1 f.2
 over:f.1≠0->f.2*den n ws c i=den n ws c r
 all:f.2*den n ws c i<=pr (bot ws) 0 n
 le:f.1*max 1 (V ws c i)<=B
structure FI (n:Nat)(ws:List RW)(c:Circuit)(r B:Nat)(l:List NN)(L:List Frac):Prop where
 len:l.length=c.length
 lenL:L.length=c.length
 at_:∀ i,i<c.length->jH n ws c r B (l.getD i (0,1)) (L[i]?.getD Frac.zero) i
theorem jH.mono {n:Nat}{ws:List RW}{c:Circuit}{r B B':Nat}{f:NN}{F:Frac}{i:Nat}(h:jH n ws c r B f F i)(hb:B<=B'):jH n ws c r B' f F i:=⟨h.pos,h.eq,h.over,h.all,Nat.le_trans h.le hb⟩
theorem j7 {α:Type}{l:List α}{i j:Nat}{x d:α}(h:i<l.length):(l.set i x).getD j d=if i=j then x else l.getD j d:=by
 simp only[List.getD,List.getElem?_set]
 split
 ·rename_i e;subst e;simp[h]
 ·rfl
theorem IB {n:Nat}{ws:List RW}{c:Circuit}{r B B':Nat}{l:List NN}{L:List Frac}{i:Nat}{f:NN}{F:Frac}(hw:Wok ws)(h:FI n ws c r B l L)(hi:i<c.length)(hf:jH n ws c r B' f F i):
  FI n ws c r (B+B') (rTo l i f) (addAt L i F):=by
 refine ⟨by unfold rTo;rw[List.length_set];exact h.len,by unfold addAt;rw[List.length_set];exact h.lenL,λj hj=>?_⟩;unfold rTo addAt;rw[j7 (by rw[h.len];exact hi),show ((L.set i ((L[i]?.getD Frac.zero).add F))[j]?.getD Frac.zero)=if i=j then (L[i]?.getD Frac.zero).add F else L[j]?.getD Frac.zero from j7 (d:=Frac.zero) (by rw[h.lenL];exact hi)]
 by_cases e:i=j
 ·subst e;rw[if_pos rfl,if_pos rfl];have o:=h.at_ i hi;generalize l.getD i (0,1)=g at o;obtain ⟨p,q⟩:=g;obtain ⟨fp,fq⟩:=f;have q0:0<q:=o.pos;have f0:0<fq:=hf.pos;rw[o.eq,hf.eq]
  by_cases z:p=0
  ·subst z;rw[if_pos rfl];refine ⟨hf.pos,?_,hf.over,hf.all,Nat.le_trans hf.le (Nat.le_add_left _ _)⟩;show (frac (0:Int) q).add (frac fp fq)=frac fp fq;rw[oZ q0 f0,Int.zero_mul,Int.zero_add,Nat.mul_comm q fq,jO f0 q0]
  ·rw[if_neg z];refine ⟨q0,?_,λ_=>o.over z,o.all,?_⟩
   ·show (frac p q).add (frac fp fq)=frac ((p+fp:Nat):Int) q
    by_cases y:fp=0
    ·subst y;rw[oZ q0 f0];show frac ((p:Int)*fq+0*q) _=_;rw[Int.zero_mul,Int.add_zero,jO q0 f0];rfl
    ·have e:fq=q:=Nat.eq_of_mul_eq_mul_right (eF (n:=n) (c:=c) (i:=i) hw) ((hf.over y).trans (o.over z).symm);subst e;rw[mS q0,Int.natCast_add]
   ·show (p+fp)*_<=_;rw[Nat.add_mul];exact Nat.add_le_add o.le hf.le
 ·rw[if_neg e,if_neg e];exact (h.at_ j hj).mono (Nat.le_add_right _ _)
theorem HU {n:Nat}{ws:List RW}{c:Circuit}{r B:Nat}{l:List NN}{L:List Frac}{k:Nat}{x:CNode}(hn:ws.length=n)(hw:Wok ws)(w:Wf n c)(h:FI n ws c r B l L)(hx:c[k]?=some x):
  FI n ws c r (4*B) (MU (dX ws c) (l.getD k (0,1)) l x) (passDown (values (bT ws) c) (L[k]?.getD Frac.zero) L x):=by
 have hk:=(List.getElem?_eq_some_iff.mp hx).1;have K:=w k x hx;have o:=h.at_ k hk
 have keep:FI n ws c r (4*B) l L:=⟨h.len,h.lenL,λi hi=>(h.at_ i hi).mono (by lia)⟩
 have g:∀ {j},j<k->c[j]?=some (c[j]?.getD (.yes 0)):=λhj=>by rw[List.getElem?_eq_getElem (Nat.lt_trans hj hk)];rfl
 have b4:B+B+B<=4*B:=by lia
 have wide:∀ {l' L'},FI n ws c r (B+B+B) l' L'->FI n ws c r (4*B) l' L':=λh=>⟨h.len,h.lenL,λi hi=>(h.at_ i hi).mono b4⟩
 cases x with
 | const f=>exact keep
 | yes v=>exact keep
 | no v=>exact keep
 | add a b=>
  obtain ⟨ha,hb,s,za,zb⟩:=K;have hs:sc n c k=sc n c a:=sJ hx (w k _ hx);have va:=OI hn w a (g ha);have vb:=OI hn w b (g hb);have vk:V ws c k=V ws c a+V ws c b:=by unfold V;rw[mT hx (w k _ hx)];rfl
  have pa:=va.2 za;have pb:=vb.2 zb;have mk:max 1 (V ws c k)=V ws c a+V ws c b:=by rw[vk];lia
  have fa:jH n ws c r B (l.getD k (0,1)) (L[k]?.getD Frac.zero) a:=⟨o.pos,o.eq,λq=>by have:=o.over q;unfold den at this ⊢;rwa [hs] at this,by have:=o.all;unfold den at this ⊢;rwa [hs] at this,
   Nat.le_trans (Nat.mul_le_mul_left _ (by lia)) (mk▸o.le)⟩
  have fb:jH n ws c r B (l.getD k (0,1)) (L[k]?.getD Frac.zero) b:=⟨o.pos,o.eq,λq=>by have:=o.over q;unfold den at this ⊢;rwa [hs,s] at this,by have:=o.all;unfold den at this ⊢;rwa [hs,s] at this,
   Nat.le_trans (Nat.mul_le_mul_left _ (by lia)) (mk▸o.le)⟩
  exact wide (IB hw (IB hw h (Nat.lt_trans ha hk) fa) (Nat.lt_trans hb hk) fb)
 | mul a b=>
  obtain ⟨ha,hb,⟨v,m,e,s1,s2,un⟩,za,zb⟩:=K;have hs:sc n c k=(v,m+1):=by rw[sJ hx (w k _ hx)];show ((sc n c a).1,(sc n c b).2+1)=_;rw[s1,s2]
  have dk:den n ws c k=den n ws c a*den n ws c b:=by unfold den;rw[hs,s1,s2,fM];rfl
  have va:=OI hn w a (g ha);have vb:=OI hn w b (g hb);have ra:=lH hn hw w a (g ha);have rb:=lH hn hw w b (g hb);have vk:V ws c k=V ws c a*V ws c b:=by unfold V;rw[mT hx (w k _ hx)];rfl
  have pa:=va.2 za;have pb:=vb.2 zb;have pk:0<V ws c a*V ws c b:=Nat.mul_pos pa pb;have mk:max 1 (V ws c k)=V ws c a*V ws c b:=by rw[vk];lia
  have ma:max 1 (V ws c a)=V ws c a:=by lia
  have mb:max 1 (V ws c b)=V ws c b:=by lia
  have da:0<den n ws c a:=eF hw;have db:0<den n ws c b:=eF hw;have ole:=o.le;rw[mk] at ole
  have fa:jH n ws c r B ((l.getD k (0,1)).1*(rv ws c b).1,(l.getD k (0,1)).2*(rv ws c b).2) ((L[k]?.getD Frac.zero).mul (sv (bT ws) c b)) a:=by
   refine ⟨Nat.mul_pos o.pos (rb.1▸db),?_,λq=>?_,?_,?_⟩
   ·rw[o.eq,rb.2.1,kY o.pos (rb.1▸db),Int.natCast_mul]
   ·show _*_*_=_;rw[rb.1,Nat.mul_assoc,Nat.mul_comm (den n ws c b),← dk];exact o.over λz=>q (by show _*_=0;rw[z,Nat.zero_mul])
   ·show _*_*_<=_;rw[rb.1,Nat.mul_assoc,Nat.mul_comm (den n ws c b),← dk];exact o.all
   ·show _*_*_<=_;rw[ma,Nat.mul_assoc];refine Nat.le_trans (Nat.mul_le_mul_left _ ?_) ole;rw[Nat.mul_comm];exact Nat.mul_le_mul_left _ vb.1
  have fb:jH n ws c r B ((l.getD k (0,1)).1*(rv ws c a).1,(l.getD k (0,1)).2*(rv ws c a).2) ((L[k]?.getD Frac.zero).mul (sv (bT ws) c a)) b:=by
   refine ⟨Nat.mul_pos o.pos (ra.1▸da),?_,λq=>?_,?_,?_⟩
   ·rw[o.eq,ra.2.1,kY o.pos (ra.1▸da),Int.natCast_mul]
   ·show _*_*_=_;rw[ra.1,Nat.mul_assoc,← dk];exact o.over λz=>q (by show _*_=0;rw[z,Nat.zero_mul])
   ·show _*_*_<=_;rw[ra.1,Nat.mul_assoc,← dk];exact o.all
   ·show _*_*_<=_;rw[mb,Nat.mul_assoc];exact Nat.le_trans (Nat.mul_le_mul_left _ (Nat.mul_le_mul_right _ va.1)) ole
  exact wide (IB hw (IB hw h (Nat.lt_trans ha hk) fa) (Nat.lt_trans hb hk) fb)
theorem FT {n:Nat}{ws:List RW}{c:Circuit}{r:Nat}(hn:ws.length=n)(hw:Wok ws)(w:Wf n c):∀ (k B:Nat) {l:List NN} {L:List Frac},k<=c.length->FI n ws c r B l L->
  FI n ws c r (4^k*B) (uQ c (dX ws c) k l) (flowsFrom c (values (bT ws) c) k L)
 | 0,B,l,L,_,h=>by rw[Nat.pow_zero,Nat.one_mul];exact h
 | k+1,B,l,L,hk,h=>by
  have hx:c[k]?=some c[k]:=List.getElem?_eq_getElem hk;have s:=FT (r:=r) hn hw w k (4*B) (Nat.le_of_lt hk) (HU hn hw w h hx);unfold uQ GZ flowsFrom;rw[hx,Nat.pow_succ,Nat.mul_assoc];exact s
theorem C5 {n:Nat}{ws:List RW}{c:Circuit}{r:Nat}(hw:Wok ws)(w:Wf n c)(hr:r<c.length):
  FI n ws c r (max 1 (V ws c r)) (rD c r) ((c.map λ_=>Frac.zero).set r Frac.one):=by
 refine ⟨by unfold rD;simp,by simp,λi hi=>?_⟩;have hx:c[i]?=some c[i]:=List.getElem?_eq_getElem hi;have dn:den n ws c i<=pr (bot ws) 0 n:=TJ (λv _=>FD hw v) (RX w i hx);unfold rD;rw[j7 (by simpa using hr),show (((c.map λ_=>Frac.zero).set r Frac.one)[i]?.getD Frac.zero)=if r=i then Frac.one else ((c.map λ_=>Frac.zero).getD i Frac.zero) from j7 (by simpa using hr)]
 by_cases e:r=i
 ·subst e;rw[if_pos rfl,if_pos rfl];exact ⟨Nat.one_pos,AU.symm,λ_=>Nat.one_mul _,by rw[Nat.one_mul];exact dn,by rw[Nat.one_mul];exact Nat.le_refl _⟩
 ·rw[if_neg e,if_neg e];have e1:(List.replicate c.length ((0,1):NN)).getD i (0,1)=(0,1):=by simp[List.getD,hi]
  have e2:(c.map λ_=>Frac.zero).getD i Frac.zero=Frac.zero:=by simp[List.getD,hi]
  rw[e1,e2];exact ⟨Nat.one_pos,by decide,λq=>absurd rfl q,by rw[Nat.one_mul];exact dn,by rw[Nat.zero_mul];exact Nat.zero_le _⟩
theorem iQ {n:Nat}{ws:List RW}{m:Made}(hn:ws.length=n)(hw:Wok ws)(w:Wf n m.nodes)(hr:m.root<m.nodes.length):
  FI n ws m.nodes m.root (4^m.nodes.length*max 1 (V ws m.nodes m.root)) (bU ws m) (flows (bT ws) m):=FT hn hw w _ _ (Nat.le_refl _) (C5 hw w hr)
end Mth
namespace Mth
open VaprbBase Vaprbi
def E36:Nat:=10^36
structure WB (w:RW):Prop where
 y:w.y<=E36
 n:w.n<=E36
 p:0<w.b
 b:w.b<=E36
def WBs (ws:List RW):Prop:=∀ w∈ws,WB w
theorem WBs.ok {ws:List RW}(h:WBs ws):Wok ws:=λw hw=>(h w hw).p
theorem y4:E36<2^120:=by decide +kernel
theorem qM {ws:List RW}(h:WBs ws)(v:Nat):WB (ws.getD v rw0):=by
 rw[List.getD]
 cases q:ws[v]? with
 | none=>exact ⟨Nat.zero_le _,Nat.zero_le _,Nat.one_pos,by decide +kernel⟩
 | some w=>exact h w (List.mem_of_getElem? q)
theorem xD {g:Nat->Nat}{k lo len:Nat}(h:∀ v,g v<=2^k):pr g lo len<=2^(k*len):=by
 refine Nat.le_trans (RM (g':=λ_=>2^k) λv _ _=>h v) ?_;rw[uP,← Nat.pow_mul];exact Nat.le_refl _
theorem DB {ws:List RW}(h:WBs ws)(v:Nat):bot ws v<=2^120:=Nat.le_trans (qM h v).b (Nat.le_of_lt y4)
theorem KQ {ws:List RW}(h:WBs ws)(v:Nat):cap ws v<=2^122:=by
 have w:=qM h v;have e:=y4;have h1:=w.y;have h2:=w.n;unfold cap
 have:(2:Nat)^122=2^120*4:=by decide +kernel
 have t:2<=(2:Nat)^120:=by decide +kernel
 lia
theorem IF {ws:List RW}(h:WBs ws)(v:Nat):cap (up ws) v<=2^122:=by
 by_cases hv:v<ws.length
 ·have w:=qM h v;have e:=y4;have h1:=w.y;have h2:=w.n;unfold cap;rw[F3 hv]
  have:(2:Nat)^122=2^120*4:=by decide +kernel
  have t:4<=(2:Nat)^120:=by decide +kernel
  show _+1+(_+1)+2<=_;lia
 ·unfold cap
  have:(up ws).getD v rw0=rw0:=by
   rw[List.getD,List.getElem?_eq_none (by rw[OB];lia)];rfl
  rw[this]
  decide +kernel
theorem WQ {ws:List RW}(h:Wok ws):Wok (up ws):=λw hw=>by
 obtain ⟨x,hx,e⟩:=List.mem_map.mp hw;subst e;exact h x hx
theorem eJ {a b:Nat}(h:a<=b):(2:Nat)^a<=2^b:=Nat.pow_le_pow_right (by decide) h
section
variable {n:Nat}{ws:List RW}{c:Circuit}(hn:ws.length=n)(h12:n<=12)(hw:WBs ws)(w:Wf n c)(hc:c.length<=2000){i:Nat}(hi:i<c.length)
include hn h12 hw w hc hi
theorem JO:(sc n c i).2<=12:=by
 have:=RX w i (List.getElem?_eq_getElem hi)
 lia
theorem rF:(rv ws c i).1<2^3500:=by
 have a:=(lH hn hw.ok w i (List.getElem?_eq_getElem hi)).2.2;have b:lim n ws c i<=2^(122*12):=Nat.le_trans (xD (KQ hw)) (eJ (Nat.mul_le_mul_left _ (JO hn h12 hw w hc hi)));refine Nat.lt_of_le_of_lt (Nat.le_trans a (Nat.mul_le_mul (eJ (show i<=2000 by lia)) b)) ?_;rw[← Nat.pow_add];exact Nat.pow_lt_pow_right (by decide) (by decide)
theorem rE:(rv ws c i).2<2^1500:=by
 rw[(lH hn hw.ok w i (List.getElem?_eq_getElem hi)).1];refine Nat.lt_of_le_of_lt (Nat.le_trans (xD (DB hw)) (eJ (Nat.mul_le_mul_left _ (JO hn h12 hw w hc hi)))) ?_;exact Nat.pow_lt_pow_right (by decide) (by decide)
theorem uT:0<(rv ws c i).2:=by
 rw[(lH hn hw.ok w i (List.getElem?_eq_getElem hi)).1];exact eF hw.ok
theorem LI:(gv ws c i).1<2^1500:=by
 have a:=(AV hn hw.ok w i (List.getElem?_eq_getElem hi)).2.2.1;refine Nat.lt_of_le_of_lt (Nat.le_trans a (Nat.le_trans (xD (KQ hw)) (eJ (Nat.mul_le_mul_left _ (JO hn h12 hw w hc hi))))) ?_;exact Nat.pow_lt_pow_right (by decide) (by decide)
theorem DL:(gv ws c i).2.1<2^1500:=by
 rw[(AV hn hw.ok w i (List.getElem?_eq_getElem hi)).1];refine Nat.lt_of_le_of_lt (Nat.le_trans (xD (DB hw)) (eJ (Nat.mul_le_mul_left _ (JO hn h12 hw w hc hi)))) ?_;exact Nat.pow_lt_pow_right (by decide) (by decide)
theorem LH:0<(gv ws c i).2.1:=by
 rw[(AV hn hw.ok w i (List.getElem?_eq_getElem hi)).1];exact eF hw.ok
theorem FX:(gv ws c i).2.2<2^2100:=by
 have a:=(AV hn hw.ok w i (List.getElem?_eq_getElem hi)).2.2.2.2;refine Nat.lt_of_le_of_lt (Nat.le_trans a (Nat.mul_le_mul (eJ (show i<=2000 by lia)) (eJ (JO hn h12 hw w hc hi)))) ?_;rw[← Nat.pow_add];exact Nat.pow_lt_pow_right (by decide) (by decide)
theorem V_le:max 1 (V ws c i)<=2^3464:=by
 have a:=(lH (ws:=up ws) (by rw[OB];exact hn) (WQ hw.ok) w i (List.getElem?_eq_getElem hi)).2.2;have b:lim n (up ws) c i<=2^(122*12):=Nat.le_trans (xD (IF hw)) (eJ (Nat.mul_le_mul_left _ (JO hn h12 hw w hc hi)))
 have d:V ws c i<=2^3464:=by
  refine Nat.le_trans a (Nat.le_trans (Nat.mul_le_mul (eJ (show i<=2000 by lia)) b) ?_);rw[← Nat.pow_add];exact eJ (by decide)
 exact Nat.max_le.mpr ⟨Nat.one_le_two_pow,d⟩
end
theorem sE {n:Nat}{ws:List RW}{c:Circuit}{r B:Nat}{l:List NN}{L:List Frac}(hn:ws.length=n)(h12:n<=12)(hw:WBs ws)(w:Wf n c)(hc:c.length<=2000)(hr:r<c.length)(hB:B<=4^c.length*max 1 (V ws c r))
  (h:FI n ws c r B l L) {i:Nat} (hi:i<c.length):(l.getD i (0,1)).1<2^7500/\(l.getD i (0,1)).2<2^1500/\0<(l.getD i (0,1)).2:=by
 have a:=h.at_ i hi;refine ⟨?_,?_,a.pos⟩
 ·have e:(l.getD i (0,1)).1<=B:=Nat.le_trans (Nat.le_mul_of_pos_right _ (by lia)) a.le
  have f:(4:Nat)^c.length<=2^4000:=by
   rw[show (4:Nat)=2^2 from rfl,← Nat.pow_mul];exact eJ (by lia)
  refine Nat.lt_of_le_of_lt (Nat.le_trans e (Nat.le_trans hB (Nat.mul_le_mul f (V_le hn h12 hw w hc hr)))) ?_;rw[← Nat.pow_add];exact Nat.pow_lt_pow_right (by decide) (by decide)
 ·have e:(l.getD i (0,1)).2<=pr (bot ws) 0 n:=Nat.le_trans (Nat.le_mul_of_pos_right _ (eF hw.ok)) a.all;refine Nat.lt_of_le_of_lt (Nat.le_trans e (Nat.le_trans (xD (DB hw)) (eJ (Nat.mul_le_mul_left 120 h12)))) ?_;exact Nat.pow_lt_pow_right (by decide) (by decide)
def IG (p q:Nat):RW:=⟨p,q-p,q⟩
def tQ (vs:List Vaprbg.Var):List RW:=vs.map λv=>IG v.chance.num.toNat v.chance.den
structure CP (f:Frac):Prop where
 norm:AE f
 nn:0<=f.num
 le:f.num<=f.den
 small:f.den<=1000000000
theorem FJ {f:Frac}(h:CP f):(IG f.num.toNat f.den).spec=⟨f,Frac.one.sub f⟩/\WB (IG f.num.toNat f.den):=by
 have d:=h.norm.1;have e:(f.num.toNat:Int)=f.num:=Int.toNat_of_nonneg h.nn;have l:=h.le;have s:=h.small;have big:1000000000<=E36:=by decide +kernel
 refine ⟨?_,⟨?_,?_,d,Nat.le_trans s big⟩⟩
 ·unfold IG RW.spec;have e1:frac (f.num.toNat:Int) f.den=f:=by rw[e];exact m6 h.norm
  have e2:Frac.one.sub f=frac ((f.den:Int)-f.num) f.den:=by
   have:=y9 (n:=f.num) d
   rwa [m6 h.norm] at this
  show Weight.mk _ _=Weight.mk _ _;rw[e1,e2];congr 2;show ((f.den-f.num.toNat:Nat):Int)=_;lia
 ·show f.num.toNat<=_;lia
 ·show f.den-f.num.toNat<=_;lia
theorem FF {vs:List Vaprbg.Var}(h:∀ v∈vs,CP v.chance):bT (tQ vs)=byChances vs/\WBs (tQ vs)/\(tQ vs).length=vs.length:=by
 refine ⟨?_,?_,List.length_map _⟩
 ·unfold bT tQ byChances;rw[List.map_map];exact List.map_congr_left λv hv=>(FJ (h v hv)).1
 ·intro w hw;obtain ⟨v,hv,e⟩:=List.mem_map.mp hw;subst e;exact (FJ (h v hv)).2
def xJ (f g:Frac):RW:=⟨f.num.toNat*(g.den / Nat.gcd f.den g.den),g.num.toNat*(f.den / Nat.gcd f.den g.den),f.den*(g.den / Nat.gcd f.den g.den)⟩
theorem O9 {f g:Frac}(hf:AE f)(hg:AE g)(f0:0<=f.num)(g0:0<=g.num)(b1:f.num<=10^18)(b2:f.den<=10^18)(b3:g.num<=10^18)(b4:g.den<=10^18):(xJ f g).spec=⟨f,g⟩/\WB (xJ f g):=by
 have df:=hf.1;have dg:=hg.1;have gp:0<Nat.gcd f.den g.den:=Nat.gcd_pos_of_pos_left _ df;obtain ⟨kf,ef⟩:=Nat.gcd_dvd_left f.den g.den;obtain ⟨kg,eg⟩:=Nat.gcd_dvd_right f.den g.den;have qf:f.den / Nat.gcd f.den g.den=kf:=Nat.div_eq_of_eq_mul_right gp ef;have qg:g.den / Nat.gcd f.den g.den=kg:=Nat.div_eq_of_eq_mul_right gp eg;have pf:0<kf:=Nat.pos_of_ne_zero λz=>by rw[z,Nat.mul_zero] at ef;lia
 have pg:0<kg:=Nat.pos_of_ne_zero λz=>by rw[z,Nat.mul_zero] at eg;lia
 have e1:(f.num.toNat:Int)=f.num:=Int.toNat_of_nonneg f0;have e2:(g.num.toNat:Int)=g.num:=Int.toNat_of_nonneg g0;have lf:kf<=f.den:=by rw[← qf];exact Nat.div_le_self _ _
 have lg:kg<=g.den:=by rw[← qg];exact Nat.div_le_self _ _
 have ee:E36=10^18*10^18:=by decide +kernel
 have hbot:f.den*kg=g.den*kf:=by
  conv=>lhs;rw[ef]
  conv=>rhs;rw[eg]
  rw[Nat.mul_assoc,Nat.mul_assoc,Nat.mul_comm kf]
 have n1:f.num.toNat<=10^18:=by lia
 have n2:g.num.toNat<=10^18:=by lia
 unfold xJ;rw[qf,qg];refine ⟨?_,⟨?_,?_,Nat.mul_pos df pg,?_⟩⟩
 ·show Weight.mk (frac ((f.num.toNat*kg:Nat):Int) (f.den*kg)) (frac ((g.num.toNat*kf:Nat):Int) (f.den*kg))=_;rw[Int.natCast_mul,e1,jO df pg,m6 hf,hbot,Int.natCast_mul,e2,jO dg pf,m6 hg]
 ·rw[ee];exact Nat.mul_le_mul n1 (Nat.le_trans lg b4)
 ·rw[ee];exact Nat.mul_le_mul n2 (Nat.le_trans lf b2)
 ·rw[ee];exact Nat.mul_le_mul b2 (Nat.le_trans lg b4)
def bW (w:RW):RW:=⟨w.y,0,w.b⟩
theorem x9 {ws:List RW}(h:Wok ws){v:Nat}(hv:v<ws.length):only (bT ws) v=bT (ws.set v (bW (ws.getD v rw0))):=by
 apply List.ext_getElem?;intro i;unfold only bT;rw[List.getElem?_map,List.getElem?_zipIdx,List.getElem?_map,List.getElem?_map,List.getElem?_set]
 by_cases e:v=i
 ·subst e;have q:ws[v]?=some ws[v]:=List.getElem?_eq_getElem hv;simp only[List.getD,q,hv,if_true,Option.map_some,Option.getD_some,Nat.zero_add,bW,RW.spec]
  have:frac ((0:Nat):Int) ws[v].b=Frac.zero:=IO (h _ (List.getElem_mem hv))
  rw[this]
 ·rw[if_neg e]
  cases q:ws[i]? with
  | none=>rfl
  | some w=>
   simp only[Option.map_some,Nat.zero_add];rw[if_neg (λz=>e z.symm)]
theorem WBs.set {ws:List RW}(h:WBs ws){v:Nat}{x:RW}(hx:WB x):WBs (ws.set v x):=λw hw=>by
 rcases List.mem_or_eq_of_mem_set hw with q|q
 ·exact h w q
 ·exact q▸hx
theorem t8 {w:RW}(h:WB w):WB (bW w):=⟨h.y,Nat.zero_le _,h.p,h.b⟩
theorem FE {ws:List RW}{v:Nat}(i:Nat):bot (ws.set v (bW (ws.getD v rw0))) i=bot ws i:=by
 unfold bot
 by_cases hv:v<ws.length
 ·rw[j7 hv]
  split
  ·rename_i e;rw[e];rfl
  ·rfl
 ·rw[List.set_eq_of_length_le (by lia)]
def fI (n:Nat):List RW:=List.replicate n ⟨1,1,1⟩
theorem BI {α:Type}(vs:List α):bT (fI vs.length)=(vs.map λ_=>(⟨Frac.one,Frac.one⟩:Weight))/\WBs (fI vs.length)/\(fI vs.length).length=vs.length:=by
 refine ⟨?_,?_,List.length_replicate⟩
 ·unfold bT fI;rw[List.map_replicate,List.map_const'];rfl
 ·intro w hw
  have:=List.eq_of_mem_replicate hw
  subst this;exact ⟨by decide +kernel,by decide +kernel,Nat.one_pos,by decide +kernel⟩
theorem OQ (n v:Nat):bot (fI n) v=1:=by
 unfold bot fI;rw[List.getD]
 by_cases h:v<n
 ·rw[List.getElem?_replicate,if_pos h];rfl
 ·rw[List.getElem?_replicate,if_neg h];rfl
end Mth
namespace Mth
open VaprbBase Vaprbi
structure MOk (n:Nat)(m:Made):Prop where
 wf:Wf n m.nodes
 nd:m.nodes.Nodup
 root:m.root<m.nodes.length
 len:m.nodes.length<=2000
def cS (fl:List NN)(c:Circuit)(x:CNode):NN:=match c.findIdx? λy=>y==x with
 | some i=>fl.getD i (0,1)
 | none=>(0,1)
section
variable {n:Nat}{ws:List RW}{m:Made}(hn:ws.length=n)(h12:n<=12)(hw:WBs ws)(w:MOk n m)
include hn h12 hw w
theorem CL {k:Nat}(hk:k<m.nodes.length):(values (bT ws) m.nodes)[k]?.getD Frac.zero=frac (rv ws m.nodes k).1 (rv ws m.nodes k).2:=(lH hn hw.ok w.wf k (List.getElem?_eq_getElem hk)).2.1
theorem jD:total (bT ws) m=frac (rv ws m.nodes m.root).1 (rv ws m.nodes m.root).2:=CL hn h12 hw w w.root
theorem vP:(total (bT ws) m).num=0↔(rv ws m.nodes m.root).1=0:=by
 rw[jD hn h12 hw w,iH (uT hn h12 hw w.wf w.len w.root)];exact Int.natCast_eq_zero
theorem FR {k:Nat}(hk:k<m.nodes.length):(flows (bT ws) m)[k]?.getD Frac.zero=frac ((bU ws m).getD k (0,1)).1 ((bU ws m).getD k (0,1)).2:=((iQ hn hw.ok w.wf w.root).at_ k hk).eq
theorem AS {k:Nat}(hk:k<m.nodes.length):((bU ws m).getD k (0,1)).1<2^7500/\((bU ws m).getD k (0,1)).2<2^1500/\0<((bU ws m).getD k (0,1)).2:=
 sE hn h12 hw w.wf w.len w.root (Nat.le_refl _) (iQ hn hw.ok w.wf w.root) hk
theorem mE (x:CNode):flowOf (bT ws) m x=frac (cS (bU ws m) m.nodes x).1 (cS (bU ws m) m.nodes x).2/\(cS (bU ws m) m.nodes x).1<2^7500/\(cS (bU ws m) m.nodes x).2<2^1500/\0<(cS (bU ws m) m.nodes x).2:=by
 unfold flowOf cS
 cases q:m.nodes.findIdx? λy=>y==x with
 | none=>exact ⟨by show Frac.zero=frac 0 1;decide,Nat.two_pow_pos _,Nat.one_lt_two_pow (by decide),Nat.one_pos⟩
 | some i=>
  have hi:=(List.findIdx?_eq_some_iff_getElem.mp q).1;exact ⟨FR hn h12 hw w hi,AS hn h12 hw w hi⟩
theorem JE {x:CNode}{v:Nat}(hx:x=.yes v∨x=.no v)(h0:(cS (bU ws m) m.nodes x).1≠0):(cS (bU ws m) m.nodes x).2*bot ws v=(rv ws m.nodes m.root).2:=by
 revert h0
 unfold cS
 cases q:m.nodes.findIdx? λy=>y==x with
 | none=>exact λh=>absurd rfl h
 | some i=>
  intro h;obtain ⟨hi,e,_⟩:=List.findIdx?_eq_some_iff_getElem.mp q;have e:m.nodes[i]=x:=by simpa using e
  have g:m.nodes[i]?=some x:=by rw[List.getElem?_eq_getElem hi,e]
  have o:=((iQ hn hw.ok w.wf w.root).at_ i hi).over h
  have s:sc n m.nodes i=(v,1):=by
   rw[sJ g (w.wf i _ g)]
   rcases hx with hx|hx<;>(subst hx;rfl)
  rw[(lH hn hw.ok w.wf _ (List.getElem?_eq_getElem w.root)).1,← o];unfold den;rw[s,fM]
theorem B5 {v:Nat}(hv:v<n)(h0:(rv ws m.nodes m.root).1≠0):
  ((parts (bT ws) m v).1.mul (weightAt (bT ws) v).yes).div (total (bT ws) m)=frac (((ws.getD v rw0).y*(cS (bU ws m) m.nodes (.yes v)).1:Nat):Int) (rv ws m.nodes m.root).1:=by
 have p:=mE hn h12 hw w (.yes v);have ov:=JE hn h12 hw w (x:=.yes v) (.inl rfl);show ((flowOf (bT ws) m (.yes v)).mul _).div _=_;rw[p.1,jG (by lia),jD hn h12 hw w];show ((frac _ _).mul (frac (ws.getD v rw0).y (ws.getD v rw0).b)).div _=_;have b0:0<(ws.getD v rw0).b:=(qM hw v).p;have q0:=p.2.2.2;have r0:=uT hn h12 hw w.wf w.len w.root;generalize cS (bU ws m) m.nodes (.yes v)=f at*;generalize rv ws m.nodes m.root=t at*;have t0:0<t.1:=Nat.pos_of_ne_zero h0;rw[kY q0 b0,AT (Nat.mul_pos q0 b0) r0 (by lia)];refine gO (Nat.mul_pos (Nat.mul_pos q0 b0) (by lia)) t0 ?_;have e:(((t.1:Nat):Int)).toNat=t.1:=rfl;rw[e]
 by_cases z:f.1=0
 ·rw[z];simp
 ·have ov:=ov z;rw[show f.2*(ws.getD v rw0).b=t.2 from ov];rw[← Int.natCast_mul,← Int.natCast_mul,← Int.natCast_mul,← Int.natCast_mul];congr 1;rw[Nat.mul_comm f.1,Nat.mul_assoc]
theorem CA {u v:Nat}(hu:u<n)(hv:v<n)(h0:(rv ws m.nodes m.root).1≠0):
  (total (only (only (bT ws) u) v) m).div (total (bT ws) m)=frac (rv ((ws.set u (bW (ws.getD u rw0))).set v (bW (ws.getD v rw0))) m.nodes m.root).1 (rv ws m.nodes m.root).1:=by
 have hw1:WBs (ws.set u (bW (ws.getD u rw0))):=hw.set (t8 (qM hw u))
 have e:(ws.set u (bW (ws.getD u rw0))).set v (bW ((ws.set u (bW (ws.getD u rw0))).getD v rw0))=(ws.set u (bW (ws.getD u rw0))).set v (bW (ws.getD v rw0)):=by
  rw[j7 (by lia)]
  split
  ·rename_i q;rw[q];rfl
  ·rfl
 rw[x9 hw.ok (by lia),x9 hw1.ok (by rw[List.length_set];lia),e];have hw2:WBs ((ws.set u (bW (ws.getD u rw0))).set v (bW (ws.getD v rw0))):=hw1.set (t8 (qM hw v));have hl2:((ws.set u (bW (ws.getD u rw0))).set v (bW (ws.getD v rw0))).length=n:=by rw[List.length_set,List.length_set];exact hn
 have dd:(rv ((ws.set u (bW (ws.getD u rw0))).set v (bW (ws.getD v rw0))) m.nodes m.root).2=(rv ws m.nodes m.root).2:=by
  rw[(lH hl2 hw2.ok w.wf _ (List.getElem?_eq_getElem w.root)).1,(lH hn hw.ok w.wf _ (List.getElem?_eq_getElem w.root)).1];unfold den;congr 1;funext i;rw[← e,FE,FE]
 rw[jD hl2 h12 hw2 w,jD hn h12 hw w,dd];have r0:=uT hn h12 hw w.wf w.len w.root;generalize rv ws m.nodes m.root=t at*;have t0:0<t.1:=Nat.pos_of_ne_zero h0;rw[AT r0 r0 (by lia)];refine gO (Nat.mul_pos r0 (by lia)) t0 ?_;have e:(((t.1:Nat):Int)).toNat=t.1:=rfl;rw[e,← Int.natCast_mul,← Int.natCast_mul,← Int.natCast_mul];congr 1;rw[Nat.mul_assoc]
theorem GE:most (bT ws) m=(frac (gv ws m.nodes m.root).1 (gv ws m.nodes m.root).2.1,(gv ws m.nodes m.root).2.2):=(AV hn hw.ok w.wf _ (List.getElem?_eq_getElem w.root)).2.1
theorem J0:(most (bT ws) m).1.num=0↔(gv ws m.nodes m.root).1=0:=by
 rw[GE hn h12 hw w];show (frac _ _).num=0↔_;rw[iH (LH hn h12 hw w.wf w.len w.root)];exact Int.natCast_eq_zero
end
theorem QZ {α:Type}{vs:List α}{m:Made}(h12:vs.length<=12)(w:MOk vs.length m):(total (vs.map λ_=>(⟨Frac.one,Frac.one⟩:Weight)) m).num=(rv (fI vs.length) m.nodes m.root).1:=by
 obtain ⟨e,hw,hl⟩:=BI vs;rw[← e,jD hl h12 hw w]
 have d:(rv (fI vs.length) m.nodes m.root).2=1:=by
  rw[(lH hl hw.ok w.wf _ (List.getElem?_eq_getElem w.root)).1];unfold den
  have:bot (fI vs.length)=λ_=>1:=by funext v;exact OQ _ v
  rw[this,uP,Nat.one_pow]
 rw[d,dS Nat.one_pos];simp
theorem P4 {n t:Nat}(h:(mkT n 0 t []).1.length<=2000):MOk n ⟨(mkT n 0 t []).1,(mkT n 0 t []).2⟩:=by
 have o:=sU (n:=n) n 0 t (c:=[]) (Nat.zero_add _) (λi x e=>by cases e) List.nodup_nil;exact ⟨o.wf,o.nd,o.lt,h⟩
end Mth
namespace XF
open PySem PySem.Spec PyProof.Rows
structure oP (fs ex:List Addr)(h h':Heap):Prop where
 keep:∀ b o,b∉ex->b∉fs->h.get? b=some o->h'.get? b=some o
 slot:∀ b o,b∉ex->h.get? b=some o->∃ sl,h'.get? b=some { o with slots:=sl }
def Exc (cls:Value)(od:Option Addr)(e:Addr)(tb:Value)(h:Heap):Prop:=∃ vs sl,h.get? e=some ⟨cls,od,.fields vs,sl⟩/\vs.size=6/\vs[1]?=some tb
def Rec (T:Addr)(fl:Value)(h:Heap):Prop:=∃ oT ts,h.get? T=some oT/\oT.data=.fields ts/\ts[3]?=some fl
theorem oH {h:Heap}{a:Addr}{o:Obj}{vs:Array Value}(i:Nat)(x:Value)(he:h.get? a=some o)(hd:o.data=.fields vs):
  (h.update a (Obj.mapFields (·.setIfInBounds i x))).get? a=some ⟨o.cls,o.dict,.fields (vs.setIfInBounds i x),o.slots⟩:=by
 have e:=Heap.get?_update_self (Obj.mapFields (·.setIfInBounds i x)) he (Obj.isFreed_of_fields (Obj.data_mapFields hd _));rw[e];obtain ⟨c,d,dt,sl⟩:=o;subst hd;rfl
section
variable {M:Model}{A:Around}{E:Value->Shared->Prop}{s:Shared}{base:Heap}{env:Env}{outer:List Env}{L e:Addr}{cls:Value}{od:Option Addr}
theorem VI {head tb:Value}{nx:Bool}{Q:Unit->Shared->Prop}(hfr:A.frames=some (env::outer))(hl:s.heap.FunFrames base (env::outer))(hf:env.frame=some L)(he:Exc cls od e tb s.heap)
  (h:∀ h' T,oP ((env::outer).filterMap (·.frame)) [e] s.heap h'->s.heap.objs.size<=T->T≠e->Exc cls od e (.ref T) h'->Rec T (rawInt L) h'->Q () { s with heap:=h' }):
  wpAny M A (do let a ← frameOf env;let pl ← entryPlaceOf L nx;let b ← EntryCells.newEntry head a .none (rawInt L) .none pl;setField (.ref e) 1 b) Q E s:=by
 obtain ⟨vs,sl,he,hz,_⟩:=he
 have nfr:e∉(env::outer).filterMap (·.frame):=λhm=>by
  obtain ⟨_,o,ho,nf⟩:=hl.mem hm;rw[he] at ho;cases ho;exact nf vs rfl
 refine wpAny_bind (wpAny_frameOf_fun hfr hl hf λh1 s1=>wpAny_bind (wpAny_entryPlaceOf λpl hpl=>?_));unfold EntryCells.newEntry newFields;refine wpAny_bind (wpAny_newObj_type ?_ (hpl.sizeOk5 _ _ _ _ _));have e1:h1.get? e=some ⟨cls,od,.fields vs,sl⟩:=(s1.2.1 e nfr).trans he;have neT:h1.objs.size≠e:=Nat.ne_of_gt (Heap.lt_size e1);have e2:=Heap.get?_push_of_some (h:=h1) (⟨.type "traceback",none,.fields ([head,.ref L,.none,rawInt L,.none]++(if pl.isEmpty then List.replicate 6 Value.none else pl)).toArray,#[]⟩:Obj) e1;have t2:=Heap.get?_push_size h1 (o:=(⟨.type "traceback",none,.fields ([head,.ref L,.none,rawInt L,.none]++(if pl.isEmpty then List.replicate 6 Value.none else pl)).toArray,#[]⟩:Obj)) rfl
 have kp:∀ b o,b≠e->h1.get? b=some o->((h1.push (⟨.type "traceback",none,.fields ([head,.ref L,.none,rawInt L,.none]++(if pl.isEmpty then List.replicate 6 Value.none else pl)).toArray,#[]⟩:Obj)).update e (Obj.mapFields (·.setIfInBounds 1 (.ref h1.objs.size)))).get? b=some o:=λb o nb q=>by
  rw[Heap.get?_update_other _ _ (Ne.symm nb)];exact Heap.get?_push_of_some _ q
 refine wpAny_setField e2 rfl (by rw[hz];decide) (h _ h1.objs.size ⟨λb o hx hfs q=>kp b o (λz=>hx (by simp[z])) ?_,λb o hx q=>?_⟩ ?_ neT ⟨_,sl,oH 1 _ e2 rfl,by simp[hz],by simp[hz]⟩ ⟨_,_,(Heap.get?_update_other _ _ (Ne.symm neT)).trans t2,rfl,?_⟩)
 ·exact (s1.2.1 b hfs).trans q
 ·obtain ⟨sl',q'⟩:=s1.2.2 b o q;exact ⟨sl',kp b _ (λz=>hx (by simp[z])) q'⟩
 ·exact Nat.le_of_eq s1.1.symm
 ·first
   | (simp;done)
   | (rcases hpl with rfl|⟨_,_,_,_,_,_,_,rfl⟩<;>simp)
theorem B0 {Q:Unit->Shared->Prop}(hfr:A.frames=some (env::outer))(hl:s.heap.FunFrames base (env::outer))(hf:env.frame=some L)(he:Exc cls od e .none s.heap)
  (h:∀ h' T,oP ((env::outer).filterMap (·.frame)) [e] s.heap h'->s.heap.objs.size<=T->T≠e->Exc cls od e (.ref T) h'->Rec T .none h'->Q () { s with heap:=h' }):wpAny M A (leaving env (.ref e)) Q E s:=by
 obtain ⟨vs,sl,e0,hz,h1⟩:=id he;unfold leaving noteFrame;simp only[hf];refine wpAny_bind (wpAny_bind (wpAny_field e0 rfl h1 ?_));rw[if_neg (by decide)];refine VI hfr hl hf he λh' T tn nT ne x r=>?_;obtain ⟨vs',sl',e',hz',h1'⟩:=id x;obtain ⟨oT,ts,eT,dT,h3⟩:=r;unfold setFlight;refine wpAny_bind (wpAny_field e' rfl h1' ?_);rw[if_pos (by simp:(Value.ref T != Value.none)=true)];have sz:3<ts.size:=(Array.getElem?_eq_some_iff.mp h3).1;refine wpAny_setField eT dT sz (h _ T ⟨λb o hx hfs q=>?_,λb o hx q=>?_⟩ nT ne ⟨vs',sl',?_,hz',h1'⟩ ⟨_,_,oH 3 _ eT dT,rfl,by simp[sz]⟩)
 ·have nb:b≠T:=Nat.ne_of_lt (Nat.lt_of_lt_of_le (Heap.lt_size q) nT);rw[Heap.get?_update_other _ _ (Ne.symm nb)];exact tn.keep b o hx hfs q
 ·have nb:b≠T:=Nat.ne_of_lt (Nat.lt_of_lt_of_le (Heap.lt_size q) nT);obtain ⟨sl2,q2⟩:=tn.slot b o hx q;exact ⟨sl2,by rw[Heap.get?_update_other _ _ (Ne.symm nb)];exact q2⟩
 ·rw[Heap.get?_update_other _ _ ne];exact e'
theorem LM {T:Addr}{fl:Value}{Q:Unit->Shared->Prop}(he:Exc cls od e (.ref T) s.heap)(hr:Rec T fl s.heap)(ne:T≠e)
  (h:∀ h',(∀ b o,b≠T->s.heap.get? b=some o->h'.get? b=some o)->Exc cls od e (.ref T) h'->Rec T .none h'->Q () { s with heap:=h' }):wpAny M A (setFlight (.ref e) none) Q E s:=by
 obtain ⟨vs,sl,e0,hz,h1⟩:=id he;obtain ⟨oT,ts,eT,dT,h3⟩:=hr;unfold setFlight;refine wpAny_bind (wpAny_field e0 rfl h1 ?_);rw[if_pos (by simp:(Value.ref T != Value.none)=true)];have sz:3<ts.size:=(Array.getElem?_eq_some_iff.mp h3).1;refine wpAny_setField eT dT sz (h _ (λb o nb q=>?_) ⟨vs,sl,?_,hz,h1⟩ ⟨_,_,oH 3 _ eT dT,rfl,by simp[sz]⟩)
 ·rw[Heap.get?_update_other _ _ (Ne.symm nb)];exact q
 ·rw[Heap.get?_update_other _ _ ne];exact e0
theorem wZ {T:Addr}{Q:Unit->Shared->Prop}(hfr:A.frames=some (env::outer))(hl:s.heap.FunFrames base (env::outer))(hf:env.frame=some L)(he:Exc cls od e (.ref T) s.heap)(hr:Rec T .none s.heap)(ne:T≠e)
  (h:∀ h' T',oP ((env::outer).filterMap (·.frame)) [e,T] s.heap h'->s.heap.objs.size<=T'->T'≠e->Exc cls od e (.ref T') h'->Rec T' (rawInt L) h'->Q () { s with heap:=h' }):wpAny M A (noteFrame (.ref e) env) Q E s:=by
 obtain ⟨vs,sl,e0,hz,h1⟩:=id he;obtain ⟨oT,ts,eT,dT,h3⟩:=hr;have sz:3<ts.size:=(Array.getElem?_eq_some_iff.mp h3).1;unfold noteFrame;simp only[hf];refine wpAny_bind (wpAny_field e0 rfl h1 ?_);rw[if_pos (by simp:(Value.ref T != Value.none)=true)];refine wpAny_bind (wpAny_field eT dT h3 ?_);rw[if_neg (by simp[rawInt]:¬ (Value.none==rawInt L)=true)];refine wpAny_bind (wpAny_setField eT dT sz ?_)
 have kp:∀ b o,b≠T->s.heap.get? b=some o->(s.heap.update T (Obj.mapFields (·.setIfInBounds 3 Value.none))).get? b=some o:=λb o nb q=>by
  rw[Heap.get?_update_other _ _ (Ne.symm nb)];exact q
 have hl2:(s.heap.update T (Obj.mapFields (·.setIfInBounds 3 Value.none))).FunFrames base (env::outer):=hl.of_keeps λb o q nf=>⟨o,kp b o (λz=>by
  rw[z,eT] at q;cases q
  exact nf ts dT) q,rfl⟩
 refine VI (s:={ s with heap:=s.heap.update T (Obj.mapFields (·.setIfInBounds 3 Value.none)) }) hfr hl2 hf ⟨vs,sl,kp e _ (Ne.symm ne) e0,hz,h1⟩ λh' T' tn nT' ne' x r=>h h' T' ⟨λb o hx hfs q=>?_,λb o hx q=>?_⟩ ?_ ne' x r
 ·exact tn.keep b o (λz=>hx (by simp at z;simp[z])) hfs (kp b o (λz=>hx (by simp[z])) q)
 ·exact tn.slot b o (λz=>hx (by simp at z;simp[z])) (kp b o (λz=>hx (by simp[z])) q)
 ·exact Nat.le_trans (Nat.le_of_eq (Heap.size_update _ _ _).symm) nT'
end
end XF
namespace XF
open PySem PySem.W PySem.Calls PyProof.Rows Builtin Builtin.ObjectAttr
def oW:List Value:=[.type "ValueError",.type "Exception",.type "BaseException",.type "object"]
structure XC (K:Frag)(C:Addr):Prop where
 cls:(clsIn K C).any (λcd=>decide (cd.mro=.ref C::oW)&&cd.hasDict)=true
 sa:findIn K (.ref C) "__setattr__" = some (some (.builtin "object.__setattr__"))
 ga:findIn K (.ref C) "__getattribute__" = some (some (.builtin "BaseException.__getattribute__"))
 gh:findIn K (.ref C) "__getattr__" = some none
theorem XC.cd {K:Frag}{C:Addr}(c:XC K C):∃ cd,clsIn K C=some cd/\cd.mro=.ref C::oW/\cd.hasDict=true:=by
 obtain ⟨cd,hc,h⟩:=any_some c.cls;rw[Bool.and_eq_true] at h;exact ⟨cd,hc,of_decide_eq_true h.1,h.2⟩
theorem JK (self:Value)(C:Addr):refuseLoop self "__setattr__" (.ref C::oW)=pure ():=by
 rw[refuseLoop_ref];exact PySem.F.store_ValueError.passes self
theorem kga:builtinKind "BaseException.__getattribute__" = some .slot:=by decide +kernel
theorem sga:splitId "BaseException.__getattribute__" = some ("BaseException","__getattribute__"):=by decide +kernel
section
variable {prog:Program}{w:World}{A:Around}{E:Value->Shared->Prop}{s:Shared}{K:Frag}{C x dx:Addr}{name:Str}{v:Value}{vs:Array Value}{sl:Array (Option Value)}{mA:Str->Option Value}
theorem wO (hx:s.heap.get? x=some ⟨.ref C,some dx,.fields vs,sl⟩){od:Obj}(hd:s.heap.get? dx=some od):InstAt s.heap x ⟨.ref C,some dx,.fields vs,sl⟩ C (some od):=⟨hx,rfl,rfl,hd⟩
theorem IS (hx:s.heap.get? x=some ⟨.ref C,none,.fields vs,sl⟩):InstAt s.heap x ⟨.ref C,none,.fields vs,sl⟩ C none:=⟨hx,rfl,rfl,trivial⟩
theorem isX {ox:Obj}{od:Option Obj}{T:String}(X:K.In s.heap)(I:InstAt s.heap x ox C od)(c:XC K C)(hT:oW.contains (.type T)=true):Looks (model prog w) s.heap (isInstance (.ref x) (.type T)) true:=by
 obtain ⟨cd,hc,hm,_⟩:=c.cd;refine I.type.andThen (looks_mroIn X ?_);unfold mroIn;rw[hc,Option.bind_some,hm,if_neg (by simp),List.contains_cons,hT,Bool.or_true]
theorem VV {ox:Obj}{od:Option Obj}{tk:Tok}{R:Result->Shared->Prop}(X:K.In s.heap)(I:InstAt s.heap x ox C od)(c:XC K C)(hn:findIn K (.ref C) name=some none)
  (h:wpAny (model prog w) A.in1 (storeInOwnDict (.ref x) (.ref C) (.str name tk) name v false)
   (λfin s'=>match fin with|.done f=>R (.ok f) s'|.again c'=>c'.quiet=true/\codeAny (model prog w) A c' R s') (λe s'=>R (.error e) s') s):
  codeAny (model prog w) A (.call (.builtin "object.__setattr__") ⟨[.ref x,.str name tk,v],[]⟩) R s:=by
 have SF:=PySem.F.store_ValueError;obtain ⟨cd,hc,hm,_⟩:=c.cd;have io:=isX (prog:=prog) (w:=w) X I c (T := "object") (by decide);refine codeAny_call_builtin SF.slot.plain SF.entry (@check_slot (model prog w) _ _ s "object.__setattr__" "object" "__setattr__" (.ref x) [.str name tk,v] [] _ SF.kind SF.split io (SF.args (.ref x) (.str name tk) v) ?_);have lm:Looks (model prog w) s.heap (mroOf (.ref C)) cd.mro:=(looks_clsIn X hc).andThen .now;rw[osa_eq,refuse_eq];refine wpAny_bind (wpAny_bind (I.type.here (wpAny_bind (lm.here ?_))));rw[hm,JK];refine wpAny_pure (wpAny_bind (I.type.here (wpAny_bind ((looks_findIn X hn).here (wpAny_bind (Looks.here (r:=none) (.now) ?_))))));exact h
theorem setX {ns:List Str}{Q:Unit->Shared->Prop}(X:K.In s.heap)(c:XC K C)(hn:findIn K (.ref C) name=some none)(hx:s.heap.get? x=some ⟨.ref C,some dx,.fields vs,sl⟩)(hd:s.heap.Ns1 dx mA)
  (hw:PySem.Within mA ns) (hsz:ns.length<=sizeLine)
  (h:∀ h',h'.Ns1 dx (λy=>if y=name then some v else mA y)->Heap.SameBut dx s.heap h'->Q () { s with heap:=h',toks:=s.toks+2 }):wpAny (model prog w) A (setAttr (.ref x) name v) Q E s:=by
 obtain ⟨od,_,_,ho,_⟩:=id hd;have I:=wO hx ho;obtain ⟨cd,hc,_,hh⟩:=c.cd;refine set_plain X I c.sa (VV (s:={ s with toks:=s.toks+1 }) X I c hn ?_);refine wpAny_bind (wpAny_pure (wpAny_bind (wpAny_bind (wpAny_loadPart hx (wpAny_bind (Looks.here (s:={ s with toks:=s.toks+1 }) (looks_clsIn X hc) ?_))))));rw[hh];refine wpAny_pure (a:=some dx) (wpAny_bind (wpAny_pure (wpAny_bind ?_)));refine wpAny_nsSet1 (s:={ s with toks:=s.toks+1 }) hd λh' n2 s2=>?_;obtain ⟨oD,esD,epD,hoD,hdD,hcD⟩:=n2.count (PySem.Within.cons name v hw);refine wpAny_bind (wpAny_lookBehind hoD (by rw[hdD];exact pastItsLine_dict (Nat.le_trans hcD (by rw[List.length_cons];lia))) ?_);exact wpAny_pure (h _ n2 s2)
theorem WH {Q:Unit->Shared->Prop}(X:K.In s.heap)(c:XC K C)(hn:findIn K (.ref C) name=some none)(hx:s.heap.get? x=some ⟨.ref C,none,.fields vs,sl⟩)
  (h:∀ h' d,h'.Ns1 d (λy=>if y=name then some v else none)->s.heap.get? d=none->h'.get? x=some ⟨.ref C,some d,.fields vs,sl⟩->(∀ b o,b≠x->s.heap.get? b=some o->h'.get? b=some o)->Q () { s with heap:=h',toks:=s.toks+2 }):
  wpAny (model prog w) A (setAttr (.ref x) name v) Q E s:=by
 have I:=IS hx;obtain ⟨cd,hc,_,hh⟩:=c.cd;refine set_plain X I c.sa (VV (s:={ s with toks:=s.toks+1 }) X I c hn ?_);refine wpAny_bind (wpAny_pure (wpAny_bind (wpAny_bind (wpAny_loadPart hx (wpAny_bind (Looks.here (s:={ s with toks:=s.toks+1 }) (looks_clsIn X hc) ?_))))));rw[hh];have lt:=Heap.lt_size hx;have px:=Heap.get?_push_of_some (h:=s.heap) (⟨.type "dict",none,.dict #[] 0,#[]⟩:Obj) hx;have pd:=Heap.get?_push_size s.heap (o:=(⟨.type "dict",none,.dict #[] 0,#[]⟩:Obj)) rfl;have ne:s.heap.objs.size≠x:=Nat.ne_of_gt lt;refine wpAny_bind (wpAny_alloc (wpAny_bind (wpAny_update px ?_)));have ux:=Heap.get?_update_self (λo:Obj=>{ o with dict:=some s.heap.objs.size }) px rfl
 have ud:((s.heap.push ⟨.type "dict",none,.dict #[] 0,#[]⟩).update x λo:Obj=>{ o with dict:=some s.heap.objs.size }).get? s.heap.objs.size=some ⟨.type "dict",none,.dict #[] 0,#[]⟩:=by
  rw[Heap.get?_update_other _ _ (Ne.symm ne)];exact pd
 have n0:((s.heap.push ⟨.type "dict",none,.dict #[] 0,#[]⟩).update x λo:Obj=>{ o with dict:=some s.heap.objs.size }).Ns s.heap.objs.size (λ_=>none):=⟨_,#[],_,ud,rfl,(λe he=>absurd he (by simp)),λ_=>rfl⟩
 refine wpAny_pure (a:=some s.heap.objs.size) (wpAny_bind (wpAny_pure (wpAny_bind ?_)));refine wpAny_nsSet1 (s:={ s with heap:=(s.heap.push ⟨.type "dict",none,.dict #[] 0,#[]⟩).update x λo:Obj=>{ o with dict:=some s.heap.objs.size },toks:=s.toks+1 }) (Heap.Ns1.of_empty n0) λh' n2 s2=>?_;obtain ⟨oD,esD,epD,hoD,hdD,hcD⟩:=n2.count (PySem.Within.cons name v (ns:=[]) (λy hy=>absurd rfl hy));refine wpAny_bind (wpAny_lookBehind hoD (by rw[hdD];exact pastItsLine_dict (Nat.le_trans hcD (by rw[List.length_cons,sizeLine_eq];decide))) ?_);refine wpAny_pure (h _ s.heap.objs.size n2 (Heap.get?_none_of_le (Nat.le_refl _)) ?_ λb o nb q=>?_)
 ·exact (s2.2 x (Ne.symm ne)).trans ux
 ·have nd:b≠s.heap.objs.size:=Nat.ne_of_lt (Heap.lt_size q);refine (s2.2 b nd).trans ?_;show ((s.heap.push ⟨.type "dict",none,.dict #[] 0,#[]⟩).update x _).get? b=some o;rw[Heap.get?_update_other _ _ (Ne.symm nb)];exact Heap.get?_push_of_some _ q
theorem getX {expr:Bool}{Q:Value->Shared->Prop}(X:K.In s.heap)(c:XC K C)(hn:findIn K (.ref C) name=some none)(hx:s.heap.get? x=some ⟨.ref C,some dx,.fields vs,sl⟩)(hd:s.heap.Ns1 dx mA)
  (hv:mA name=some v) (hi:handedIn v=true) (hlook:∃ od,s.heap.get? dx=some od/\lookIn name od=some (mA name)) (h:Q v { s with toks:=s.toks+1 }):wpAny (model prog w) A (getAttr (.ref x) name expr) Q E s:=by
 obtain ⟨od,ho,hl⟩:=hlook;have I:=wO hx ho;obtain ⟨cd,hc,_,hh⟩:=c.cd;have hf:findObj K C (some od) name=some (.value v):=findObj_own (by unfold hasDictIn;rw[hc];exact hh) hn rfl (by rw[hl,hv]);obtain ⟨hp,g,d,t,os⟩:=s;have L0:=I.type (M:=model prog w);have L1:=looks_findIn (M:=model prog w) X c.ga;have L2:=looks_findIn (M:=model prog w) X c.gh;have L3:=looks_find (M:=model prog w) X I hf;unfold getAttr getAttrBy;refine wpAny_bind (wpAny_mkText (wpAny_holding (wpAny_bind (L0.at (wpAny_bind (L1.at ?_))))));show wpAny _ _ (getAttrByItsOwn _ _ _ _ _ _) _ _ _;unfold getAttrByItsOwn;refine wpAny_bind (L2.at (wpAny_bind (wpAny_attempt (wpAny_holding ?_))));have e1:callGetattribute (.ref x) (.str name t) (.builtin "BaseException.__getattribute__") expr=boundAndCalled (.builtin "BaseException.__getattribute__") (.ref x) (.str name t):=by cases expr<;>rfl
 rw[e1];unfold boundAndCalled;rw[PySem.F.attr_ValueError.ga.bind];have io:=isX (prog:=prog) (w:=w) X I c (T := "BaseException") (by decide);refine wpAny_bind (wpAny_pure (wpAny_call (codeAny_call_builtin PySem.F.attr_ValueError.ga.plain PySem.F.entry_bexc_ga (@check_slot (model prog w) _ _ ⟨hp,g,d,t+1,os⟩ "BaseException.__getattribute__" "BaseException" "__getattribute__" (.ref x) [.str name t] [] _ kga sga io (PySem.F.args_bexc_ga _ _) ?_))));refine wpAny_bind (wpAny_pure (wpAny_bind (wpAny_pure (wpAny_bind (L0.at (wpAny_bind (L3.at ?_)))))));refine wpAny_pure ?_;show wpAny _ _ (handedOut v) _ _ _;rw[handedOut_of hi];exact wpAny_pure h
end
end XF
namespace L2
open PySem PySem.Spec PyProof.Rows
abbrev Key:=Sum Int Str
def u7:Key->Value->Bool
 | .inl k,v=>Value.isInt k v
 | .inr x,v=>Value.isStrOf x v
def VO (w:World):Key->Int
 | .inl k=>hashInt k
 | .inr x=>hashStr w x
theorem cQ:∀ {k:Key} {v:Value},u7 k v=true->(∃ i t,k=Sum.inl i/\v=Value.int i t)∨(∃ x t,k=Sum.inr x/\v=Value.str x t)
 | .inl i,v,h=>by
  obtain ⟨t,e⟩:=Value.isInt_shape (k:=i) (v:=v) h;exact .inl ⟨i,t,rfl,e⟩
 | .inr x,v,h=>by
  obtain ⟨t,e⟩:=Value.isStrOf_shape (x:=x) (v:=v) h;exact .inr ⟨x,t,rfl,e⟩
theorem IV (i:Int)(t:Tok):u7 (.inl i) (.int i t)=true:=by simp[u7,Value.isInt]
theorem IW (x:Str)(t:Tok):u7 (.inr x) (.str x t)=true:=by simp[u7,Value.isStrOf]
theorem SQ (a b:Int):decide ((Sum.inl a:Key)=Sum.inl b)=(a==b):=by
 by_cases e:a=b
 ·subst e;simp
 ·have h:¬ (Sum.inl a:Key)=Sum.inl b:=λq=>e (Sum.inl.inj q);rw[decide_eq_false h];exact (beq_eq_false_iff_ne.mpr e).symm
theorem ST (a b:Str):decide ((Sum.inr a:Key)=Sum.inr b)=decide (a=b):=by
 by_cases e:a=b
 ·subst e;simp
 ·have h:¬ (Sum.inr a:Key)=Sum.inr b:=λq=>e (Sum.inr.inj q);rw[decide_eq_false h,decide_eq_false e]
theorem SR (a:Int)(b:Str):decide ((Sum.inl a:Key)=Sum.inr b)=false:=decide_eq_false (λq=>nomatch q)
theorem SS (a:Str)(b:Int):decide ((Sum.inr a:Key)=Sum.inl b)=false:=decide_eq_false (λq=>nomatch q)
def cM (prog:Program)(w:World):PySem.KeyKind prog w Key where
 is:=u7
 hash:=VO w
 inj:=λv a b ha hb=>by
  rcases cQ ha with ⟨i,t,rfl,rfl⟩|⟨x,t,rfl,rfl⟩
  ·rcases cQ hb with ⟨j,u,rfl,e⟩|⟨y,u,rfl,e⟩
   ·injection e with e1 _;rw[e1]
   ·exact nomatch e
  ·rcases cQ hb with ⟨j,u,rfl,e⟩|⟨y,u,rfl,e⟩
   ·exact nomatch e
   ·injection e with e1 _;rw[e1]
 byValue:=λk v h=>by
  rcases cQ h with ⟨i,t,rfl,rfl⟩|⟨x,t,rfl,rfl⟩<;>rfl
 pyHash:=λhv h=>by
  rcases cQ hv with ⟨i,t,rfl,rfl⟩|⟨x,t,rfl,rfl⟩
  ·exact wpAny_pyHash_int h
  ·exact wpAny_pyHash_str h
 eqBool:=λhu hv h=>by
  rcases cQ hu with ⟨i,t,rfl,rfl⟩|⟨x,t,rfl,rfl⟩
  ·rcases cQ hv with ⟨j,u,rfl,rfl⟩|⟨y,u,rfl,rfl⟩
   ·rw[SQ] at h;exact wpAny_eqBool_int h
   ·rw[SR] at h;exact SeqAt.EqAt.int_str i t y u _ _ _ _ h
  ·rcases cQ hv with ⟨j,u,rfl,rfl⟩|⟨y,u,rfl,rfl⟩
   ·rw[SS] at h;exact SeqAt.EqAt.str_int x t j u _ _ _ _ h
   ·rw[ST] at h;exact wpAny_eqBool_str h
 «strs»:=λk x t v h=>by
  rcases cQ h with ⟨i,u,rfl,e⟩|⟨y,u,rfl,e⟩
  ·exact nomatch e
  ·injection e with e1 _
   subst e1;cases v<;>rfl
theorem B6 (prog:Program)(w:World)(i:Int)(t:Tok):(cM prog w).is (.inl i) (.int i t)=true:=IV i t
theorem B7 (prog:Program)(w:World)(x:Str)(t:Tok):(cM prog w).is (.inr x) (.str x t)=true:=IW x t
end L2
namespace L2
open PySem PySem.Spec PyProof.Rows
inductive V where
 | non|bl (b:Bool)|int (i:Int)|str (x:Str)|byt (b:Array UInt8)|flt (b:UInt64)|ref (a:Addr)|ty (n:String)
 deriving DecidableEq
def bP:V->Value->Prop
 | .non,u=>u=Value.none
 | .bl b,u=>u=Value.bool b
 | .int i,u=>∃ t,u=Value.int i t
 | .str x,u=>∃ t,u=Value.str x t
 | .byt b,u=>∃ t,u=Value.bytes b t
 | .flt b,u=>∃ t,u=Value.float b t
 | .ref a,u=>u=Value.ref a
 | .ty n,u=>u=Value.type n
abbrev bH:List V->List Value->Prop:=Paired bP
theorem bH.length {xs:List V}{us:List Value}(r:bH xs us):xs.length=us.length:=Paired.length r
theorem bH.get:∀ {xs:List V} {us:List Value} {i:Nat} {x:V},bH xs us->xs[i]?=some x->∃ u,us[i]?=some u/\bP x u
 | _,_,_,_,.nil,e=>by simp at e
 | _,_,0,_,.cons r _,e=>by simp at e;subst e;exact ⟨_,rfl,r⟩
 | _,_,i+1,x,.cons _ t,e=>by
  obtain ⟨u,h1,h2⟩:=bH.get (i:=i) (x:=x) t (by simpa using e);exact ⟨u,by simpa using h1,h2⟩
theorem bH.set {x:V}{u:Value}(r:bP x u):∀ {xs:List V} {us:List Value} (i:Nat),bH xs us->bH (xs.set i x) (us.set i u)
 | _,_,_,.nil=>.nil
 | _,_,0,.cons _ t=>.cons r t
 | _,_,i+1,.cons q t=>.cons q (bH.set r i t)
theorem bH.append:∀ {xs ys:List V} {us ws:List Value},bH xs us->bH ys ws->bH (xs++ys) (us++ws)
 | _,_,_,_,.nil,s=>s
 | _,_,_,_,.cons r t,s=>.cons r (bH.append t s)
theorem bH.take:∀ {xs:List V} {us:List Value} (n:Nat),bH xs us->bH (xs.take n) (us.take n)
 | _,_,0,_=>.nil
 | _,_,_+1,.nil=>.nil
 | _,_,n+1,.cons r t=>.cons r (bH.take n t)
theorem bH.drop:∀ {xs:List V} {us:List Value} (n:Nat),bH xs us->bH (xs.drop n) (us.drop n)
 | _,_,0,r=>r
 | _,_,_+1,.nil=>.nil
 | _,_,n+1,.cons _ t=>bH.drop n t
def gM:Option V->Option Value->Prop
 | some v,some u=>bP v u
 | none,none=>True
 | _,_=>False
def KV {κ:Type}:List (κ×V)->List (κ×Value)->Prop:=Paired λ(p:κ×V) (q:κ×Value)=>p.1=q.1/\bP p.2 q.2
def kV:Key->V
 | .inl i=>.int i
 | .inr x=>.str x
inductive HO where
 | lst (xs:List V)
 | tup (xs:List V)
 | dK (kvs:List (Key×V))|dT (kvs:List (List Key×V))
 | set (S:Int->Bool) (n:Nat)
 | ins (C dx:Addr) (fs:List (Str×V))
 | own (x:Addr)
 | xd (fs:List (Str×V))
 | met (f x:Addr)
 | rng (lo hi:Int)
 | frz (o:Obj) (u:HO)
 | tbl (ps:Array Value)
 | ext (φ:Heap->Prop)
abbrev Hp:=Addr->Option HO
def upd (H:Hp)(a:Addr)(o:HO):Hp:=λb=>if b=a then some o else H b
theorem aA {H:Hp}{a:Addr}{o:HO}:upd H a o a=some o:=by unfold upd;rw[if_pos rfl]
theorem aB {H:Hp}{a b:Addr}{o:HO}(h:b≠a):upd H a o b=H b:=by unfold upd;rw[if_neg h]
theorem bI {H:Hp}{a b:Addr}{o u:HO}(h:H a=some o)(h':H b=some u)(d:o≠u):a≠b:=by
 intro e;subst e;rw[h] at h';exact d (Option.some.inj h')
theorem aD {H:Hp}{a b:Addr}{o:HO}(h:H a=some o)(h':H b=none):a≠b:=by
 intro e;subst e;rw[h] at h';cases h'
section
variable  (P:Program)(w:World)
def c9 (H:Hp)(h:Heap)(a:Addr):HO->Prop
 | .lst xs=>xs.length<=sizeLine/\∃ (its:List Value) (n:Nat),bH xs its/\h.get? a=some { cls:=.type "list",data:=.seq its.toArray n }
 | .tup xs=>xs.length<=sizeLine/\∃ its:List Value,bH xs its/\IsTup h a its.toArray
 | .dK kvs=>kvs.length<=sizeLine/\(a==sysModules)=false/\∃ vs,KV kvs vs/\h.DictOf (cM P w) a vs
 | .dT kvs=>kvs.length<=sizeLine/\(a==sysModules)=false/\∃ xs:List (List Key×Addr×Value),
   Paired (λ(p:List Key×V) (q:List Key×Addr×Value)=>p.1=q.1/\H q.2.1=some (.tup (p.1.map kV))/\bP p.2 q.2.2) kvs xs/\
   ∃ o es ep,h.get? a=some o/\o.ExactDict/\o.data=.dict es ep/\es.toList=xs.map (entryOfKey (tupleKind (cM P w)))/\(xs.map (·.1)).Nodup
 | .set S n=>h.SetOf (intKind P w) a S n
 | .ins C dx fs=>H dx=some (.own a)/\fs.length<=1000/\dx≠a/\h.get? a=some (PySem.W.instObj C dx)/\
   ∃ mA,h.Ns1 dx mA/\(∀ f,gM (fs.lookup f) (mA f))/\PySem.Within mA (fs.map (·.1))
 | .own _=>∃ o,h.get? a=some o
 | .xd fs=>∃ mA,h.Ns1 a mA/\∀ f,gM (fs.lookup f) (mA f)
 | .rng lo hi=>∃ t u v,h.get? a=some { cls:=.type "range",data:=.fields #[.int lo t,.int hi u,.int 1 v] }
 | .frz o u=>h.get? a=some o/\c9 H h a u
 | .tbl ps=>h.get? a=some { cls:=.none,data:=.fields ps }
 | .met f x=>h.get? a=some (PySem.W.methodObj (.ref f) (.ref x))
 | .ext φ=>φ h/\(∃ o,h.get? a=some o)/\∀ h1 h2:Heap,φ h1->(∀ o,h1.get? a=some o->h2.get? a=some o)->φ h2
def HOk (H:Hp)(h:Heap):Prop:=∀ a o,H a=some o->c9 P w H h a o
end
section
variable {P:Program}{w:World}{H H':Hp}{h h':Heap}{a:Addr}{o:HO}
theorem c9.lt (x:c9 P w H h a o):a<h.objs.size:=by
 cases o with
 | lst xs=>obtain ⟨_,_,_,_,e⟩:=x;exact Heap.lt_size e
 | tup xs=>obtain ⟨_,_,_,p⟩:=x;exact p.lt
 | dK kvs=>obtain ⟨_,_,_,_,o,_,_,e,_⟩:=x;exact Heap.lt_size e
 | dT kvs=>obtain ⟨_,_,_,_,o,_,_,e,_⟩:=x;exact Heap.lt_size e
 | set S n=>obtain ⟨o,_,_,_,e,_⟩:=x;exact Heap.lt_size e
 | ins C dx fs=>obtain ⟨_,_,_,e,_⟩:=x;exact Heap.lt_size e
 | own y=>obtain ⟨_,e⟩:=x;exact Heap.lt_size e
 | xd fs=>obtain ⟨_,⟨_,_,_,e,_⟩,_⟩:=x;exact Heap.lt_size e
 | rng lo hi=>obtain ⟨_,_,_,e⟩:=x;exact Heap.lt_size e
 | frz ob u=>obtain ⟨e,_⟩:=x;exact Heap.lt_size e
 | tbl ps=>exact Heap.lt_size (show h.get? a=some _ from x)
 | met f y=>exact Heap.lt_size (show h.get? a=some _ from x)
 | ext φ=>obtain ⟨_,⟨_,e⟩,_⟩:=x;exact Heap.lt_size e
theorem Paired.mapP {α β:Type}{F G:α->β->Prop}:∀ {l₁:List α} {l₂:List β},Paired F l₁ l₂->(∀ a b,F a b->G a b)->Paired G l₁ l₂
 | _,_,.nil,_=>.nil
 | _,_,.cons r t,f=>.cons (f _ _ r) (Paired.mapP t f)
theorem c9.stay (x:c9 P w H h a o)(k:∀ b u,(b=a∨H b=some (.own a))->h.get? b=some u->h'.get? b=some u)
  (ho:∀ b,H b=some (.own a)->H' b=some (.own a)) (ht:∀ b xs,H b=some (.tup xs)->H' b=some (.tup xs)):c9 P w H' h' a o:=by
 induction o with
 | lst xs=>obtain ⟨z,its,n,r,e⟩:=x;exact ⟨z,its,n,r,k _ _ (.inl rfl) e⟩
 | tup xs=>obtain ⟨z,its,r,ob,e,c⟩:=x;exact ⟨z,its,r,ob,k _ _ (.inl rfl) e,c⟩
 | dK kvs=>obtain ⟨z,y,vs,r,ob,es,ep,e,c⟩:=x;exact ⟨z,y,vs,r,ob,es,ep,k _ _ (.inl rfl) e,c⟩
 | dT kvs=>
  obtain ⟨z,y,xs,r,ob,es,ep,e,c⟩:=x;exact ⟨z,y,xs,Paired.mapP r λp q z=>⟨z.1,ht _ _ z.2.1,z.2.2⟩,ob,es,ep,k _ _ (.inl rfl) e,c⟩
 | set S n=>obtain ⟨ob,es,ep,t,e,c⟩:=x;exact ⟨ob,es,ep,t,k _ _ (.inl rfl) e,c⟩
 | ins C dx fs=>
  obtain ⟨d,z,ne,e,mA,⟨od,es,ep,e2,c⟩,r⟩:=x;exact ⟨ho _ d,z,ne,k _ _ (.inl rfl) e,mA,⟨od,es,ep,k _ _ (.inr d) e2,c⟩,r⟩
 | own y=>obtain ⟨ob,e⟩:=x;exact ⟨ob,k _ _ (.inl rfl) e⟩
 | xd fs=>obtain ⟨mA,⟨od,es,ep,e,c⟩,r⟩:=x;exact ⟨mA,⟨od,es,ep,k _ _ (.inl rfl) e,c⟩,r⟩
 | rng lo hi=>obtain ⟨t,u,v,e⟩:=x;exact ⟨t,u,v,k _ _ (.inl rfl) e⟩
 | frz ob u ih=>obtain ⟨e,q⟩:=x;exact ⟨k _ _ (.inl rfl) e,ih q⟩
 | tbl ps=>
  have e:h.get? a=some { cls:=.none,data:=.fields ps }:=x;show h'.get? a=some { cls:=.none,data:=.fields ps };exact k a _ (.inl rfl) e
 | met f y=>
  have e:h.get? a=some (PySem.W.methodObj (.ref f) (.ref y)):=x;show h'.get? a=some (PySem.W.methodObj (.ref f) (.ref y));exact k a _ (.inl rfl) e
 | ext φ=>obtain ⟨p,⟨o,e⟩,st⟩:=x;exact ⟨st _ _ p λo q=>k _ _ (.inl rfl) q,⟨o,k _ _ (.inl rfl) e⟩,st⟩
theorem HOk.lt (x:HOk P w H h)(e:H a=some o):a<h.objs.size:=(x a o e).lt
theorem HOk.fresh (x:HOk P w H h)(e:h.objs.size<=a):H a=none:=by
 cases q:H a with
 | none=>rfl
 | some u=>exact absurd (Nat.lt_of_lt_of_le (x.lt q) e) (Nat.lt_irrefl _)
theorem HOk.kept (x:HOk P w H h)(k:∀ b u,h.get? b=some u->h'.get? b=some u):HOk P w H h':=λa o e=>
 (x a o e).stay (λb u _ q=>k b u q) (λ_ q=>q) λ_ _ q=>q
theorem HOk.laid (x:HOk P w H h)(k:∀ b u,h.get? b=some u->h'.get? b=some u)(hp:h.objs.size<=a)(new:c9 P w (upd H a o) h' a o):HOk P w (upd H a o) h':=λb u e=>by
 have hn:=x.fresh hp
 by_cases hb:b=a
 ·subst hb;rw[aA] at e;cases e;exact new
 ·rw[aB hb] at e;exact (x b u e).stay (λc v _ q=>k c v q) (λc q=>by rw[aB (aD q hn)];exact q) λc xs q=>by rw[aB (aD q hn)];exact q
end
def Rd (H:Hp)(a:Addr)(u:HO):Prop:=H a=some u∨∃ o,H a=some (.frz o u)
theorem Rd.ok {P:Program}{w:World}{H:Hp}{h:Heap}{a:Addr}{u:HO}(r:Rd H a u)(x:HOk P w H h):c9 P w H h a u:=by
 rcases r with r|⟨o,r⟩
 ·exact x a u r
 ·obtain ⟨_,q⟩:=x a _ r;exact q
def Mut:Option HO->Prop
 | some (.lst _)=>True
 | some (.dK _)=>True
 | some (.dT _)=>True
 | some (.set _ _)=>True
 | some (.ins _ _ _)=>True
 | some (.ext _)=>True
 | _=>False
section
variable {P:Program}{w:World}{H:Hp}{h h':Heap}{x e:Addr}{o':HO}
theorem HOk.write (ok:HOk P w H h)(mu:Mut (H x))(he:e=x∨H e=some (.own x))(k:∀ b u,b≠e->h.get? b=some u->h'.get? b=some u)(heo:∃ u,h'.get? e=some u)
  (new:c9 P w (upd H x o') h' x o'):HOk P w (upd H x o') h':=λb u q=>by
 have nown:∀ c y,H c=some (.own y)->c≠x:=λc y r z=>by subst z;rw[r] at mu;exact mu
 have ntup:∀ c xs,H c=some (.tup xs)->c≠x:=λc xs r z=>by subst z;rw[r] at mu;exact mu
 by_cases hb:b=x
 ·subst hb;rw[aA] at q;cases q;exact new
 ·rw[aB hb] at q
  by_cases hbe:b=e
  ·have q':H b=some (.own x):=by
    rcases he with z|z
    ·exact absurd (hbe.trans z) hb
    ·rw[hbe];exact z
   rw[q] at q';cases q';obtain ⟨v,hv⟩:=heo;exact ⟨v,by rw[hbe];exact hv⟩
  ·refine (ok b u q).stay (λc v hc r=>k c v ?_ r) (λc r=>by rw[aB (nown c b r)];exact r) λc xs r=>by rw[aB (ntup c xs r)];exact r
   rcases hc with rfl|hc
   ·exact hbe
   ·rintro rfl
    rcases he with z|z
    ·exact nown c b hc z
    ·rw[hc] at z;cases z;exact hb rfl
end
structure Un (fs ex:List Addr)(H H':Hp)(h h':Heap):Prop where
 keep:∀ b o,h.get? b=some o->H b=none->b∉fs->b∉ex->h'.get? b=some o
 slot:∀ b o,h.get? b=some o->H b=none->b∈fs->b∉ex->∃ sl,h'.get? b=some { o with slots:=sl }
 free:∀ b o,h.get? b=some o->H b=none->b∉ex->H' b=none
 there:∀ b o,h.get? b=some o->b∉ex->∃ o',h'.get? b=some o'
 tups:∀ b xs,H b=some (.tup xs)->H' b=some (.tup xs)
 frzs:∀ b o u,H b=some (.frz o u)->H' b=some (.frz o u)
 tbls:∀ b ps,H b=some (.tbl ps)->∃ more,H' b=some (.tbl (ps++more))
section
variable {fs fs' ex ex':List Addr}{H H1 H2:Hp}{h h1 h2 h':Heap}{a x e:Addr}{o:HO}
theorem Un.any (u:Un fs ex H H1 h h1){b:Addr}{ob:Obj}(q:h.get? b=some ob)(n:H b=none)(hx:b∉ex):∃ sl,h1.get? b=some { ob with slots:=sl }:=by
 by_cases hb:b∈fs
 ·exact u.slot b ob q n hb hx
 ·exact ⟨ob.slots,u.keep b ob q n hb hx⟩
theorem Un.kept (k:∀ b u,h.get? b=some u->h'.get? b=some u):Un fs ex H H h h':=
 ⟨λb ob q _ _ _=>k b ob q,λb ob q _ _ _=>⟨ob.slots,k b ob q⟩,λ_ _ _ n _=>n,λb ob q _=>⟨ob,k b ob q⟩,λ_ _ q=>q,λ_ _ _ q=>q,λ_ ps q=>⟨#[],by rw[q];simp⟩⟩
theorem Un.refl:Un fs ex H H h h:=Un.kept λ_ _ q=>q
theorem Un.laid (k:∀ b u,h.get? b=some u->h'.get? b=some u)(hp:h.objs.size<=a)(hn:H a=none):Un fs ex H (upd H a o) h h' where
 keep:=λb u q _ _ _=>k b u q
 slot:=λb u q _ _ _=>⟨u.slots,k b u q⟩
 free:=λb u q n _=>by rw[aB (Nat.ne_of_lt (Nat.lt_of_lt_of_le (Heap.lt_size q) hp))];exact n
 there:=λb u q _=>⟨u,k b u q⟩
 tups:=λb xs q=>by rw[aB (aD q hn)];exact q
 frzs:=λb u xs q=>by rw[aB (aD q hn)];exact q
 tbls:=λb ps q=>⟨#[],by rw[aB (aD q hn),q];simp⟩
theorem Un.write (mu:Mut (H x))(he:e=x∨H e=some (.own x))(k:∀ b u,b≠e->h.get? b=some u->h'.get? b=some u)(heo:∃ u,h'.get? e=some u):Un fs ex H (upd H x o) h h':=by
 have hx:∀ b,H b=none->b≠x:=λb n z=>by subst z;rw[n] at mu;exact mu
 have hb:∀ b,H b=none->b≠e:=λb n z=>by
  subst z
  rcases he with r|r
  ·exact hx b n r
  ·rw[n] at r;cases r
 have hm:∀ b u,H b=some u->¬ Mut (some u)->b≠x:=λb u q nm z=>by subst z;rw[q] at mu;exact nm mu
 refine ⟨λb u q n _ _=>k b u (hb b n) q,λb u q n _ _=>⟨u.slots,k b u (hb b n) q⟩,λb u q n _=>by rw[aB (hx b n)];exact n,λb u q _=>?_,
  λb xs q=>by rw[aB (hm b _ q λz=>z)];exact q,λb u xs q=>by rw[aB (hm b _ q λz=>z)];exact q,λb ps q=>⟨#[],by rw[aB (hm b _ q λz=>z),q];simp⟩⟩
 by_cases hbe:b=e
 ·subst hbe;exact heo
 ·exact ⟨u,k b u hbe q⟩
end
def trk (h:Heap)(H:Hp):List Addr:=(List.range h.objs.size).filter λa=>(H a).isSome
def yB (h:Heap)(H:Hp):Heap:=PySem.W.hideAll h (trk h H)
theorem IP (h:Heap)(H:Hp):(yB h H).objs.size=h.objs.size:=PySem.W.hideAll_size _ _
theorem LJ {h:Heap}{H:Hp}{b:Addr}{o:Obj}(e:h.get? b=some o)(n:H b=none):(yB h H).get? b=some o:=
 PySem.W.hideAll_get _ e λhm=>by
  have q:(H b).isSome=true:=(List.mem_filter.mp hm).2;rw[n] at q;simp at q
theorem P8 {h:Heap}{H:Hp}{b:Addr}{o:Obj}(e:(yB h H).get? b=some o):h.get? b=some o/\H b=none:=by
 have e':h.get? b=some o:=PySem.W.of_hideAll (trk h H) e;refine ⟨e',?_⟩
 cases q:H b with
 | none=>rfl
 | some x=>
  have hm:b∈trk h H:=List.mem_filter.mpr ⟨List.mem_range.mpr (Heap.lt_size e'),by simp[q]⟩;have z:(yB h H).get? b=none:=PySem.W.hideAll_none (trk h H) hm;rw[z] at e;cases e
end L2
namespace L2
open PySem PySem.Spec PyProof.Rows
structure Mod (K:PySem.W.Frag)(mg:Str->Option Value)(base:Heap):Prop where
 kin:K.In base
 glob:base.Ns mainGlobals mg
 blt:∃ mb,base.Ns builtinsNs mb/\∀ x:Str,x ≠ "__name__" -> mb x=bootBuiltins x
 nolimit:base.NoLimit
structure Cx where
 prog:Program
 w:World
 K:PySem.W.Frag
 mg:Str->Option Value
 base:Heap
 A:Around
 N:List Str
 s_0:Shared
 H_0:Hp
 env:Env
 outer:List Env
 stack:List Env
 ex:List Addr
 fn:Str->Bool
 calm:Bool
 pn:List (Addr×Obj)
 xe:Value->Shared->Prop
def frs (l:List Env):List Addr:=l.filterMap (·.frame)
abbrev Cx.fs (X:Cx):List Addr:=frs X.outer
def Vis (sc:Scope)(x:Str):Prop:=sc.names.lookup x=some .local∨sc.names.lookup x=some .cell∨sc.names.lookup x=some .free
def Loc (sc:Scope)(x:Str):Prop:=sc.names.lookup x=some .local∨sc.names.lookup x=some .cell
def Look (env:Env)(h:Heap)(m:Str->Option Value)(x:Str)(u:Value):Prop:=
 (env.kindOf x=some .local/\m x=some u)∨((env.kindOf x=some .cell∨env.kindOf x=some .free)/\∃ c,env.cells.lookup x=some c/\h.IsCell c (some u))
structure Cx.Ok (X:Cx):Prop where
 mod:Mod X.K X.mg X.base
 kind:X.env.scope.kind=.function
 glob:X.env.globals=mainGlobals
 blt:X.env.builtins=builtinsNs
 above:X.s_0.heap.objs.size<=X.env.locals
 inj:∀ x y c,X.env.cells.lookup x=some c->X.env.cells.lookup y=some c->x=y
 has:∀ x,(X.env.kindOf x=some .cell∨X.env.kindOf x=some .free)->∃ c,X.env.cells.lookup x=some c
 cab:∀ x c,X.fn x=true->X.env.cells.lookup x=some c->X.s_0.heap.objs.size<=c
 hd:X.calm=true->X.A.handled=none
 frames:X.A.frames=some X.stack
 stk:X.stack=X.outer∨(X.stack=X.env::X.outer/\X.env.frame=some X.env.locals)
 exf:∀ b∈X.ex,b≠X.env.locals/\∀ x c,X.env.cells.lookup x=some c->c≠b
 bs:∀ b o,X.base.get? b=some o->X.s_0.heap.get? b=some o/\X.H_0 b=none
 bsz:X.base.objs.size<=X.s_0.heap.objs.size
 noex:∀ b o,X.base.get? b=some o->b∉X.ex
 exfs:∀ b∈X.ex,b∉X.fs
 funs:X.s_0.heap.FunFrames X.base X.outer
 frf:∀ b∈X.fs,X.H_0 b=none
structure Inv (X:Cx)(pins:List (Addr×Obj))(σ:List (Option V))(H:Hp)(s:Shared):Prop where
 ok:X.Ok
 os:s.os=X.s_0.os
 bare:AllBare s.gens
 base:Un X.fs X.ex X.H_0 H X.s_0.heap s.heap
 loc:∃ m,s.heap.Ns X.env.locals m/\∀ (i:Nat) (x:Str) (v:V),X.N[i]?=some x->σ[i]?=some (some v)->Vis X.env.scope x->∃ u,bP v u/\Look X.env s.heap m x u
 cell:∀ x c,X.env.cells.lookup x=some c->∃ v,s.heap.IsCell c v
 free:H X.env.locals=none
 freeC:∀ x c,X.env.cells.lookup x=some c->H c=none
 pin:∀ p∈X.pn++pins,s.heap.get? p.1=some p.2/\H p.1=none/\p.1≠X.env.locals/\p.1∉X.fs/\∀ v,p.2.data≠.cell v
 hok:HOk X.prog X.w H s.heap
 len:σ.length=X.N.length
section
variable {X:Cx}{pins:List (Addr×Obj)}{σ:List (Option V)}{H H':Hp}{s:Shared}{h':Heap}
theorem Cx.Ok.nofr (ok:X.Ok){b:Addr}{o:Obj}(e:X.base.get? b=some o):b∉X.fs:=λhb=>by
 have:=(ok.funs.mem hb).1
 rw[e] at this;cases this
theorem Inv.bs (I:Inv X pins σ H s):∀ b o,X.base.get? b=some o->s.heap.get? b=some o/\H b=none:=λb o e=>
 ⟨I.base.keep b o (I.ok.bs b o e).1 (I.ok.bs b o e).2 (I.ok.nofr e) (I.ok.noex b o e),I.base.free b o (I.ok.bs b o e).1 (I.ok.bs b o e).2 (I.ok.noex b o e)⟩
theorem Inv.bk (I:Inv X pins σ H s):∀ b o,X.base.get? b=some o->s.heap.get? b=some o:=λb o e=>(I.bs b o e).1
theorem Inv.mod (I:Inv X pins σ H s):Mod X.K X.mg X.base:=I.ok.mod
theorem Inv.kIn (I:Inv X pins σ H s):X.K.In s.heap:=I.ok.mod.kin.keeps I.bk
theorem Inv.fr (I:Inv X pins σ H s):∃ m,Fr X.base X.env.locals s.heap m:=
 let ⟨m,hn,_⟩:=I.loc
 ⟨m,hn,I.bk,Nat.le_trans I.ok.bsz I.ok.above⟩
theorem Inv.lt (I:Inv X pins σ H s):X.env.locals<s.heap.objs.size:=let ⟨_,hn,_⟩:=I.loc;hn.lt
theorem Inv.sz (I:Inv X pins σ H s):X.s_0.heap.objs.size<=s.heap.objs.size:=Nat.le_trans I.ok.above (Nat.le_of_lt I.lt)
theorem Inv.nofs (I:Inv X pins σ H s){a:Addr}(h:s.heap.objs.size<=a):a∉X.fs:=λhb=>by
 obtain ⟨_,o,ho,_⟩:=I.ok.funs.mem hb;exact absurd (Nat.lt_of_lt_of_le (Heap.lt_size ho) (Nat.le_trans I.sz h)) (Nat.lt_irrefl _)
theorem Inv.cne (I:Inv X pins σ H s):∀ x c,X.env.cells.lookup x=some c->c≠X.env.locals:=λx c e z=>by
 obtain ⟨v,o,ho,hd⟩:=I.cell x c e;obtain ⟨m,⟨o',es,ep,ho',hd',_⟩,_⟩:=I.loc;rw[z,ho'] at ho;cases ho;rw[hd'] at hd;cases hd
theorem Inv.funs (I:Inv X pins σ H s):s.heap.FunFrames X.base X.outer:=by
 have all:∀ (l:List Env),(∀ b∈frs l,b∈X.fs)->X.s_0.heap.FunFrames X.base l->s.heap.FunFrames X.base l:=by
  intro l
  induction l with
  | nil=>intro _ _;trivial
  | cons env r ih=>
   intro hs hl;obtain ⟨hk,⟨L,o,hf,hn,ho,hd⟩,hr⟩:=hl;have hL:L∈X.fs:=hs L (by unfold frs;rw[List.filterMap_cons,hf];exact List.mem_cons_self);obtain ⟨sl,e⟩:=I.base.slot L o ho (I.ok.frf L hL) hL λz=>I.ok.exfs L z hL;exact ⟨hk,⟨L,_,hf,hn,e,hd⟩,ih (λb hb=>hs b (by unfold frs;rw[List.filterMap_cons,hf];exact List.mem_cons_of_mem _ hb)) hr⟩
 exact all X.outer (λ_ hb=>hb) I.ok.funs
theorem Inv.stack (I:Inv X pins σ H s):s.heap.FunFrames X.base X.stack:=by
 rcases I.ok.stk with e|⟨e,hf⟩
 ·rw[e];exact I.funs
 ·rw[e];obtain ⟨m,hn,_⟩:=I.loc;refine .cons (by rw[I.ok.kind];decide) hf hn ?_ I.funs;exact Heap.get?_none_of_le (Nat.le_trans I.ok.bsz I.ok.above)
theorem Inv.stkSub (I:Inv X pins σ H s):∀ b∈frs X.stack,b∈X.env.locals::X.fs:=λb hb=>by
 rcases I.ok.stk with e|⟨e,hf⟩
 ·rw[e] at hb;exact List.mem_cons_of_mem _ hb
 ·rw[e] at hb;unfold frs at hb;rw[List.filterMap_cons,hf] at hb;exact hb
theorem Inv.stkFree (I:Inv X pins σ H s):∀ b∈frs X.stack,H b=none:=λb hb=>by
 rcases List.mem_cons.mp (I.stkSub b hb) with e|hb
 ·rw[e];exact I.free
 ·obtain ⟨_,o,ho,_⟩:=I.ok.funs.mem hb;exact I.base.free b o ho (I.ok.frf b hb) λz=>I.ok.exfs b z hb
theorem Inv.step {g':Array GenState}{t':Nat}{d':Drawn}{ch:List Addr}(I:Inv X pins σ H s)
  (hch:∀ b∈ch,(b∈X.ex∨X.s_0.heap.objs.size<=b)/\b≠X.env.locals/\(∀ x c,X.env.cells.lookup x=some c->c≠b)/\∀ p∈X.pn++pins,p.1≠b)
  (keep:∀ b o,b≠X.env.locals->b∉X.fs->b∉ch->s.heap.get? b=some o->H b=none->h'.get? b=some o)
  (slot:∀ b o,b≠X.env.locals->b∈X.fs->b∉ch->s.heap.get? b=some o->H b=none->∃ sl,h'.get? b=some { o with slots:=sl }) (free:∀ b o,b∉ch->s.heap.get? b=some o->H b=none->H' b=none)
  (there:∀ b o,b∉ch->s.heap.get? b=some o->∃ o',h'.get? b=some o')
  (tups:∀ b xs,H b=some (.tup xs)->H' b=some (.tup xs)) (frzs:∀ b o u,H b=some (.frz o u)->H' b=some (.frz o u)) (tbls:∀ b ps,H b=some (.tbl ps)->∃ more,H' b=some (.tbl (ps++more)))
  (ns:∀ m,s.heap.Ns X.env.locals m->h'.Ns X.env.locals m) (hok:HOk X.prog X.w H' h') (hg:AllBare g'):
  Inv X pins σ H' { s with heap:=h',gens:=g',drawn:=d',toks:=t' }:=by
 have neL:∀ b o,X.s_0.heap.get? b=some o->b≠X.env.locals:=λb o e=>Nat.ne_of_lt (Nat.lt_of_lt_of_le (Heap.lt_size e) I.ok.above)
 have neC:∀ b o,X.s_0.heap.get? b=some o->b∉X.ex->b∉ch:=λb o e hx hb=>by
  rcases (hch b hb).1 with z|z
  ·exact hx z
  ·exact absurd (Nat.lt_of_lt_of_le (Heap.lt_size e) z) (Nat.lt_irrefl _)
 have cellK:∀ x c,X.env.cells.lookup x=some c->∀ v,s.heap.IsCell c v->h'.IsCell c v:=λx c e v ⟨o,ho,hd⟩=>by
  have nch:c∉ch:=λz=>(hch c z).2.2.1 x c e rfl
  by_cases hc:c∈X.fs
  ·obtain ⟨sl,q⟩:=slot c o (I.cne x c e) hc nch ho (I.freeC x c e);exact ⟨_,q,hd⟩
  ·exact ⟨o,keep c o (I.cne x c e) hc nch ho (I.freeC x c e),hd⟩
 refine ⟨I.ok,I.os,hg,⟨λb o e n hb hx=>?_,λb o e n hb hx=>?_,λb o e n hx=>?_,λb o e hx=>?_,λb xs e=>tups b xs (I.base.tups b xs e),λb o xs e=>frzs b o xs (I.base.frzs b o xs e),λb ps e=>?_⟩,?_,λx c e=>?_,?_,λx c e=>?_,λp hp=>?_,hok,I.len⟩
 ·exact keep b o (neL b o e) hb (neC b o e hx) (I.base.keep b o e n hb hx) (I.base.free b o e n hx)
 ·obtain ⟨sl,e1⟩:=I.base.slot b o e n hb hx;obtain ⟨sl',e2⟩:=slot b _ (neL b o e) hb (neC b o e hx) e1 (I.base.free b o e n hx);exact ⟨sl',e2⟩
 ·obtain ⟨o',e1⟩:=I.base.there b o e hx;exact free b o' (neC b o e hx) e1 (I.base.free b o e n hx)
 ·obtain ⟨o',e1⟩:=I.base.there b o e hx;exact there b o' (neC b o e hx) e1
 ·obtain ⟨m1,e1⟩:=I.base.tbls b ps e;obtain ⟨m2,e2⟩:=tbls b _ e1;exact ⟨m1++m2,by rw[e2,Array.append_assoc]⟩
 ·obtain ⟨m,hn,hl⟩:=I.loc;refine ⟨m,ns m hn,λi x v e1 e2 e3=>?_⟩;obtain ⟨u,r,l⟩:=hl i x v e1 e2 e3;refine ⟨u,r,?_⟩
  rcases l with l|⟨k,c,e,z⟩
  ·exact .inl l
  ·exact .inr ⟨k,c,e,cellK x c e _ z⟩
 ·obtain ⟨v,z⟩:=I.cell x c e;exact ⟨v,cellK x c e v z⟩
 ·obtain ⟨m,⟨o,_,_,ho,_⟩,_⟩:=I.loc;exact free _ o (λz=>(hch _ z).2.1 rfl) ho I.free
 ·obtain ⟨v,o,ho,hd⟩:=I.cell x c e;exact free c o (λz=>(hch c z).2.2.1 x c e rfl) ho (I.freeC x c e)
 ·obtain ⟨e,n,ne,nf,d⟩:=I.pin p hp;have nch:p.1∉ch:=λz=>(hch p.1 z).2.2.2 p hp rfl;exact ⟨keep p.1 p.2 ne nf nch e n,free p.1 p.2 nch e n,ne,nf,d⟩
theorem Inv.un {t':Nat}(I:Inv X pins σ H s)(u:Un X.fs [] H H' s.heap h')(hok:HOk X.prog X.w H' h'):Inv X pins σ H' { s with heap:=h',toks:=t' }:=by
 obtain ⟨m,⟨o,es,ep,ho,r⟩,_⟩:=id I.loc;obtain ⟨sl,hL⟩:=u.any ho I.free (by simp)
 exact I.step (g':=s.gens) (d':=s.drawn) (ch:=[]) (λ_ z=>nomatch z) (λb o _ hb _ e n=>u.keep b o e n hb (by simp)) (λb o _ hb _ e n=>u.slot b o e n hb (by simp)) (λb o _ e n=>u.free b o e n (by simp)) (λb o _ e=>u.there b o e (by simp)) u.tups u.frzs u.tbls (λm' hm=>by
  obtain ⟨o',es',ep',ho',r'⟩:=hm;rw[ho] at ho';cases ho'
  exact ⟨_,es',ep',hL,r'⟩) hok I.bare
theorem Inv.call {g':Array GenState}{t':Nat}{d':Drawn}{ch:List Addr}(I:Inv X pins σ H s)(u:Un (frs X.stack) ch H H' s.heap h')(hok:HOk X.prog X.w H' h')(hg:AllBare g')
  (hch:∀ b∈ch,(b∈X.ex∨X.s_0.heap.objs.size<=b)/\b≠X.env.locals/\(∀ x c,X.env.cells.lookup x=some c->c≠b)/\∀ p∈X.pn++pins,p.1≠b):
  Inv X pins σ H' { s with heap:=h',gens:=g',drawn:=d',toks:=t' }:=by
 obtain ⟨m,⟨o,es,ep,ho,r⟩,_⟩:=id I.loc;obtain ⟨sl,hL⟩:=u.any ho I.free λz=>(hch _ z).2.1 rfl
 exact I.step (ch:=ch) hch (λb o hL hb hc e n=>u.keep b o e n (λz=>(List.mem_cons.mp (I.stkSub b z)).elim hL hb) hc) (λb o _ _ hc e n=>u.any e n hc) (λb o hc e n=>u.free b o e n hc) (λb o hc e=>u.there b o e hc) u.tups u.frzs u.tbls (λm' hm=>by
  obtain ⟨o',es',ep',ho',r'⟩:=hm;rw[ho] at ho';cases ho'
  exact ⟨_,es',ep',hL,r'⟩) hok hg
theorem Inv.turned {t':Nat}{it:Addr}(I:Inv X pins σ H s)(k:∀ b o,b≠it->s.heap.get? b=some o->h'.get? b=some o)(hn:H it=none)(hL:it≠X.env.locals)
  (h1:it∈X.ex∨X.s_0.heap.objs.size<=it) (h2:∀ x c,X.env.cells.lookup x=some c->c≠it) (h3:∀ p∈X.pn++pins,p.1≠it):Inv X pins σ H { s with heap:=h',toks:=t' }:=by
 have nit:∀ b u,H b=some u->b≠it:=λb u e z=>by rw[z,hn] at e;cases e
 refine I.step (g':=s.gens) (d':=s.drawn) (ch:=[it]) (λb hb=>?_) (λb o _ _ hc e _=>k b o (λz=>hc (by simp[z])) e) (λb o _ _ hc e _=>⟨o.slots,k b o (λz=>hc (by simp[z])) e⟩) (λ_ _ _ _ n=>n)
  (λb o hc e=>⟨o,k b o (λz=>hc (by simp[z])) e⟩) (λ_ _ e=>e) (λ_ _ _ e=>e) (λb ps e=>⟨#[],by rw[e];simp⟩) (λm hm=>?_) (λb u e=>?_) I.bare
 ·have e:b=it:=by simpa using hb
  subst e;exact ⟨h1,hL,h2,h3⟩
 ·obtain ⟨o,es,ep,ho,r⟩:=hm;exact ⟨o,es,ep,k _ o (Ne.symm hL) ho,r⟩
 ·refine (I.hok b u e).stay (λc v hc q=>k c v ?_ q) (λ_ q=>q) λ_ _ q=>q
  rcases hc with z|z
  ·rw[z];exact nit b u e
  ·exact nit c _ z
theorem Inv.tok (I:Inv X pins σ H s)(t:Nat):Inv X pins σ H { s with toks:=t }:=I.un (h':=s.heap) (t':=t) Un.refl I.hok
theorem Inv.kept {t':Nat}(I:Inv X pins σ H s)(k:∀ b u,s.heap.get? b=some u->h'.get? b=some u):Inv X pins σ H { s with heap:=h',toks:=t' }:=I.un (Un.kept k) (I.hok.kept k)
theorem Inv.laid {a:Addr}{o:HO}{t':Nat}(I:Inv X pins σ H s)(k:∀ b u,s.heap.get? b=some u->h'.get? b=some u)(hp:s.heap.objs.size<=a)(new:c9 X.prog X.w (upd H a o) h' a o):
  Inv X pins σ (upd H a o) { s with heap:=h',toks:=t' }:=I.un (Un.laid k hp (I.hok.fresh hp)) (I.hok.laid k hp new)
theorem Inv.write {x e:Addr}{o:HO}{t':Nat}(I:Inv X pins σ H s)(mu:Mut (H x))(he:e=x∨H e=some (.own x))(k:∀ b u,b≠e->s.heap.get? b=some u->h'.get? b=some u)(heo:∃ u,h'.get? e=some u)
  (new:c9 X.prog X.w (upd H x o) h' x o):Inv X pins σ (upd H x o) { s with heap:=h',toks:=t' }:=I.un (Un.write mu he k heo) (I.hok.write mu he k heo new)
theorem Inv.weak {σ':List (Option V)}(I:Inv X pins σ H s)(hl:σ'.length=σ.length)(w:∀ (i:Nat) v,σ'[i]?=some (some v)->σ[i]?=some (some v)):Inv X pins σ' H s:=
 ⟨I.ok,I.os,I.bare,I.base,let ⟨m,hn,hl'⟩:=I.loc;⟨m,hn,λi x v e1 e2 e3=>hl' i x v e1 (w i v e2) e3⟩,I.cell,I.free,I.freeC,I.pin,I.hok,hl.trans I.len⟩
theorem Inv.pins_of {pins':List (Addr×Obj)}(I:Inv X pins σ H s)(h:∀ p∈pins',s.heap.get? p.1=some p.2/\H p.1=none/\p.1≠X.env.locals/\p.1∉X.fs/\∀ v,p.2.data≠.cell v):Inv X pins' σ H s:=
 ⟨I.ok,I.os,I.bare,I.base,I.loc,I.cell,I.free,I.freeC,λp hp=>(List.mem_append.mp hp).elim (λz=>I.pin p (List.mem_append_left _ z)) (h p),I.hok,I.len⟩
theorem uF {N:List Str}(hN:N.Nodup){i j:Nat}{x:Str}(a:N[i]?=some x)(b:N[j]?=some x):i=j:=by
 obtain ⟨h1,e1⟩:=List.getElem?_eq_some_iff.mp a;obtain ⟨h2,e2⟩:=List.getElem?_eq_some_iff.mp b;exact (List.getElem_inj hN).mp (e1.trans e2.symm)
theorem JZ {M:Model}{A:Around}{E:Value->Shared->Prop}{i:Nat}{x:Str}{v:V}{u:Value}{Q:Unit->Shared->Prop}(I:Inv X pins σ H s)(hN:X.N.Nodup)(hi:X.N[i]?=some x)(hx:Loc X.env.scope x)(r:bP v u)
  (h:∀ s',Inv X pins (σ.set i (some v)) H s'->(∃ a,Heap.SameBut a s.heap s'.heap/\(a=X.env.locals∨X.env.cells.lookup x=some a))->Q () s') (hf:X.fn x=true∨X.env.scope.names.lookup x=some .local:=by first|exact .inl rfl|exact .inr rfl|assumption):wpAny M A (storeName X.env x u) Q E s:=by
 obtain ⟨m,hn,hl⟩:=id I.loc;have hcls:(X.env.scope.kind==.class||(X.env.scope.kind==.module&&X.env.locals != X.env.globals))=false:=by rw[I.ok.kind];rfl
 have hiσ:i<σ.length:=by rw[I.len];exact (List.getElem?_eq_some_iff.mp hi).1
 have cne:=I.cne
 have tracked:∀ {a:Addr} {h':Heap},(∃ o,s.heap.get? a=some o/\H a=none)->Heap.SameBut a s.heap h'->HOk X.prog X.w H h':=λ{a h'} ha hs b ob e=>by
  obtain ⟨_,_,hfree⟩:=ha;refine (I.hok b ob e).stay (λc w' hc q=>(hs.2 c ?_).trans q) (λ_ q=>q) λ_ _ q=>q;rintro rfl
  rcases hc with rfl|hc
  ·rw[hfree] at e;cases e
  ·rw[hfree] at hc;cases hc
 rcases hx with hk|hk
 ·refine wpAny_storeName_local hk hn (λh' hn' hs=>?_) hcls;obtain ⟨oL,_,_,hoL,_⟩:=id hn;refine h _ ⟨I.ok,I.os,I.bare,⟨λb o e n hb hx=>?_,λb o e n hb hx=>?_,I.base.free,λb o e hx=>?_,I.base.tups,I.base.frzs,I.base.tbls⟩,⟨_,hn',λj y v' e1 e2 e3=>?_⟩,λy c e=>?_,I.free,I.freeC,λp hp=>?_,tracked ⟨oL,hoL,I.free⟩ hs,by simpa using I.len⟩ ⟨_,hs,.inl rfl⟩
  ·exact (hs.2 b (Nat.ne_of_lt (Nat.lt_of_lt_of_le (Heap.lt_size e) I.ok.above))).trans (I.base.keep b o e n hb hx)
  ·obtain ⟨sl,e1⟩:=I.base.slot b o e n hb hx;exact ⟨sl,(hs.2 b (Nat.ne_of_lt (Nat.lt_of_lt_of_le (Heap.lt_size e) I.ok.above))).trans e1⟩
  ·obtain ⟨o',e1⟩:=I.base.there b o e hx;exact ⟨o',(hs.2 b (Nat.ne_of_lt (Nat.lt_of_lt_of_le (Heap.lt_size e) I.ok.above))).trans e1⟩
  ·by_cases hj:j=i
   ·subst hj;rw[hi] at e1;cases e1;rw[List.getElem?_set_self hiσ] at e2;cases e2;exact ⟨u,r,.inl ⟨hk,by simp⟩⟩
   ·rw[List.getElem?_set_ne (Ne.symm hj)] at e2;obtain ⟨u',r',q⟩:=hl j y v' e1 e2 e3;refine ⟨u',r',?_⟩
    rcases q with ⟨k,e⟩|⟨k,c,e,z⟩
    ·refine .inl ⟨k,?_⟩
     have:y≠x:=λe=>hj (uF hN e1 (e▸hi))
     simp[this,e]
    ·exact .inr ⟨k,c,e,z.sameBut hs (cne y c e)⟩
  ·obtain ⟨w',z⟩:=I.cell y c e;exact ⟨w',z.sameBut hs (cne y c e)⟩
  ·obtain ⟨e,n,ne,nf,d⟩:=I.pin p hp;exact ⟨(hs.2 p.1 ne).trans e,n,ne,nf,d⟩
 ·have hfn:X.fn x=true:=by
   rcases hf with z|z
   ·exact z
   ·rw[z] at hk;cases hk
  obtain ⟨c,hc⟩:=I.ok.has x (.inl hk);obtain ⟨w',z⟩:=I.cell x c hc;refine wpAny_storeName_cell I.ok.kind hk hc z (λh' hc' hs=>?_);obtain ⟨oc,hoc,hocd⟩:=id z;refine h { s with heap:=h' } ⟨I.ok,I.os,I.bare,⟨λb o e n hb hx=>?_,λb o e n hb hx=>?_,I.base.free,λb o e hx=>?_,I.base.tups,I.base.frzs,I.base.tbls⟩,⟨m,hn.sameBut hs (Ne.symm (cne x c hc)),λj y v' e1 e2 e3=>?_⟩,λy c' e=>?_,I.free,I.freeC,λp hp=>?_,tracked ⟨oc,hoc,I.freeC x c hc⟩ hs,by simpa using I.len⟩ ⟨c,hs,.inr hc⟩
  ·exact (hs.2 b (Nat.ne_of_lt (Nat.lt_of_lt_of_le (Heap.lt_size e) (I.ok.cab x c hfn hc)))).trans (I.base.keep b o e n hb hx)
  ·obtain ⟨sl,e1⟩:=I.base.slot b o e n hb hx;exact ⟨sl,(hs.2 b (Nat.ne_of_lt (Nat.lt_of_lt_of_le (Heap.lt_size e) (I.ok.cab x c hfn hc)))).trans e1⟩
  ·obtain ⟨o',e1⟩:=I.base.there b o e hx;exact ⟨o',(hs.2 b (Nat.ne_of_lt (Nat.lt_of_lt_of_le (Heap.lt_size e) (I.ok.cab x c hfn hc)))).trans e1⟩
  ·by_cases hj:j=i
   ·subst hj;rw[hi] at e1;cases e1;rw[List.getElem?_set_self hiσ] at e2;cases e2;exact ⟨u,r,.inr ⟨.inl hk,c,hc,hc'⟩⟩
   ·rw[List.getElem?_set_ne (Ne.symm hj)] at e2;obtain ⟨u',r',q⟩:=hl j y v' e1 e2 e3;refine ⟨u',r',?_⟩
    rcases q with q|⟨k,c',e,z'⟩
    ·exact .inl q
    ·refine .inr ⟨k,c',e,z'.sameBut hs ?_⟩;rintro rfl;exact hj (uF hN e1 (I.ok.inj _ _ _ e hc▸hi))
  ·by_cases hcc:c'=c
   ·subst hcc;exact ⟨_,hc'⟩
   ·obtain ⟨w2,z2⟩:=I.cell y c' e;exact ⟨w2,z2.sameBut hs hcc⟩
  ·obtain ⟨e,n,ne,nf,d⟩:=I.pin p hp;refine ⟨(hs.2 p.1 ?_).trans e,n,ne,nf,d⟩;intro q;rw[q,hoc] at e;have q':oc=p.2:=Option.some.inj e;exact d w' (by rw[← q'];exact hocd)
theorem qD {M:Model}{A:Around}{E:Value->Shared->Prop}{i:Nat}{x:Str}{v:V}{u:Value}{Q:Unit->Shared->Prop}(I:Inv X pins σ H s)(hN:X.N.Nodup)(hi:X.N[i]?=some x)(hx:Loc X.env.scope x)(r:bP v u)
  (h:∀ s',Inv X pins (σ.set i (some v)) H s'->Q () s') (hf:X.fn x=true∨X.env.scope.names.lookup x=some .local:=by first|exact .inl rfl|exact .inr rfl|assumption):wpAny M A (storeName X.env x u) Q E s:=
 JZ I hN hi hx r (λs' I' _=>h s' I') hf
theorem Inv.call' {s':Shared}{ch:List Addr}(I:Inv X pins σ H s)(ho:s'.os=s.os)(u:Un (frs X.stack) ch H H' s.heap s'.heap)(hok:HOk X.prog X.w H' s'.heap)(hg:AllBare s'.gens)
  (hch:∀ b∈ch,(b∈X.ex∨X.s_0.heap.objs.size<=b)/\b≠X.env.locals/\(∀ x c,X.env.cells.lookup x=some c->c≠b)/\∀ p∈X.pn++pins,p.1≠b):Inv X pins σ H' s':=by
 obtain ⟨h',g',d',t',o'⟩:=s';have e:o'=s.os:=ho;subst e;exact I.call (g':=g') (t':=t') (d':=d') u hok hg hch
end
abbrev XK:=Value->Option Addr->Hp->Prop
abbrev St:=List (Option V)
abbrev VK:=V->Hp->Prop
abbrev TE:=St->Hp->VK->Prop
abbrev TT:=St->Hp->(Bool->Hp->Prop)->Prop
abbrev TA:=St->Hp->(List V->Hp->Prop)->Prop
structure vU where
 nx:St->Hp->Prop
 rt:VK
 bk:St->Hp->Prop:=λ_ _=>False
 ct:St->Hp->Prop:=λ_ _=>False
abbrev TS:=vU->St->Hp->Prop
def EP (X:Cx)(pins:List (Addr×Obj))(σ:St)(Q:VK)(u:Value)(s':Shared):Prop:=∃ v H',Inv X pins σ H' s'/\bP v u/\Q v H'
def TP (X:Cx)(pins:List (Addr×Obj))(σ:St)(Q:Bool->Hp->Prop)(b:Bool)(s':Shared):Prop:=∃ H',Inv X pins σ H' s'/\Q b H'
def AP (X:Cx)(pins:List (Addr×Obj))(σ:St)(Q:List V->Hp->Prop)(us:List Value)(s':Shared):Prop:=∃ vs H',Inv X pins σ H' s'/\bH vs us/\Q vs H'
def SP (X:Cx)(pins:List (Addr×Obj))(D:vU)(f:Flow)(s':Shared):Prop:=
 match f with
 | .next=>∃ σ' H',Inv X pins σ' H' s'/\D.nx σ' H'
 | .brk=>∃ σ' H',Inv X pins σ' H' s'/\D.bk σ' H'
 | .cont=>∃ σ' H',Inv X pins σ' H' s'/\D.ct σ' H'
 | .ret u=>∃ v σ' H',Inv X pins σ' H' s'/\bP v u/\D.rt v H'
def PE (X:Cx)(e:Expr)(t:TE):Prop:=
 ∀ (pins:List (Addr×Obj)) (s:Shared) (σ:St) (H:Hp) (Q:VK),Inv X pins σ H s->t σ H Q->wpAny (model X.prog X.w) X.A (eval e X.env) (EP X pins σ Q) X.xe s
def PT (X:Cx)(e:Expr)(t:TT):Prop:=
 ∀ (pins:List (Addr×Obj)) (s:Shared) (σ:St) (H:Hp) (Q:Bool->Hp->Prop),Inv X pins σ H s->t σ H Q->wpAny (model X.prog X.w) X.A (isTrue e X.env (eval e X.env)) (TP X pins σ Q) X.xe s
def PW (X:Cx)(e:Expr)(t:TT):Prop:=
 ∀ (whole:Sem Value) (pins:List (Addr×Obj)) (s:Shared) (σ:St) (H:Hp) (Q:Bool->Hp->Prop),Inv X pins σ H s->t σ H Q->wpAny (model X.prog X.w) X.A (isTrue e X.env whole) (TP X pins σ Q) X.xe s
theorem PW.pt {X:Cx}{e:Expr}{t:TT}(h:PW X e t):PT X e t:=h _
def PA (X:Cx)(es:List Expr)(t:TA):Prop:=
 ∀ (pos:Pos) (pins:List (Addr×Obj)) (s:Shared) (σ:St) (H:Hp) (Q:List V->Hp->Prop),Inv X pins σ H s->t σ H Q->wpAny (model X.prog X.w) X.A (spliced (backTo pos (starEach es X.env))) (AP X pins σ Q) X.xe s
def PS (X:Cx)(st:Stmt)(t:TS):Prop:=
 ∀ (pins:List (Addr×Obj)) (s:Shared) (σ:St) (H:Hp) (D:vU),Inv X pins σ H s->t D σ H->wpAny (model X.prog X.w) X.A (exec st X.env) (SP X pins D) X.xe s
def PSs (X:Cx)(st:List Stmt)(t:TS):Prop:=
 ∀ (pins:List (Addr×Obj)) (s:Shared) (σ:St) (H:Hp) (D:vU),Inv X pins σ H s->t D σ H->wpAny (model X.prog X.w) X.A (execs st X.env) (SP X pins D) X.xe s
theorem thn {α:Type}{t:Sem α}{Q Q':α->Shared->Prop}{M:Model}{A:Around}{E:Value->Shared->Prop}{s:Shared}(h:wpAny M A t Q E s)(hQ:∀ a s,Q a s->Q' a s):wpAny M A t Q' E s:=wpAny_mono h hQ λ_ _ x=>x
end L2
namespace L2
open PySem PySem.Spec PyProof.Rows
section
variable {X:Cx}
theorem bin {a b:Expr}{ta tb:TE}(ha:PE X a ta)(hb:PE X b tb){pins:List (Addr×Obj)}{s:Shared}{σ:St}{H:Hp}{R:V->V->Hp->Prop}(I:Inv X pins σ H s)(h:ta σ H λx H1=>tb σ H1 λy H2=>R x y H2)
  {α:Type} {Q:α->Shared->Prop} {f:Value->Value->Sem α}
  (hf:∀ v u s2 x y H2,Inv X pins σ H2 s2->bP x v->bP y u->R x y H2->wpAny (model X.prog X.w) X.A (f v u) Q X.xe s2):
  wpAny (model X.prog X.w) X.A (eval a X.env) (λv s₁=>wpAny (model X.prog X.w) X.A (eval b X.env) (λu s₂=>wpAny (model X.prog X.w) X.A (f v u) Q X.xe s₂) X.xe s₁) X.xe s:=by
 refine thn (ha pins s σ H _ I h) λv s1 ⟨x,H1,I1,r1,q1⟩=>?_;refine thn (hb pins s1 σ H1 _ I1 q1) λu s2 ⟨y,H2,I2,r2,q2⟩=>?_;exact hf v u s2 x y H2 I2 r1 r2 q2
inductive NW (i:Nat) (σ:St) (H:Hp) (Q:VK):Prop
 | mk:∀ v,σ[i]?=some (some v)->Q v H->NW i σ H Q
theorem NX {i:Nat}{σ:St}{H:Hp}{Q:VK}:NW i σ H Q↔∃ v,σ[i]?=some (some v)/\Q v H:=⟨λ⟨a0,a1,a2⟩=>⟨a0,a1,a2⟩,λ⟨a0,a1,a2⟩=>⟨a0,a1,a2⟩⟩
def tC (v:V):TE:=λ_ H Q=>Q v H
theorem TD {i:Nat}{x:Str}{pos:Pos}(hN:X.N[i]?=some x)(hv:Vis X.env.scope x)(hd:(x==("__debug__" : Str))=false:=by decide)(hcd:(x==("__classdict__" : Str))=false:=by decide):PE X (.Name x pos) (NW i):=by
 intro pins s σ H Q I h;obtain ⟨v,e,h⟩:=h;obtain ⟨m,hn,hl⟩:=I.loc;obtain ⟨u,r,l⟩:=hl i x v hN e hv
 have fin:EP X pins σ Q u s:=⟨v,H,I,r,h⟩
 rcases l with ⟨hk,hm⟩|⟨hk,c,hc,hcell⟩
 ·exact wpAny_Name (wpAny_loadName_local I.ok.kind hk hn hm fin) hd
 ·rcases hk with hk|hk
  ·exact wpAny_Name (wpAny_loadName_cell I.ok.kind hk hc hcell fin) hd
  ·exact wpAny_Name (wpAny_loadName_free I.ok.kind hk hc hcell fin hcd) hd
theorem aF {i j pos}:PE X (.Constant (.int i) j pos) (tC (.int i)):=λ_ _ _ H _ I h=>wpAny_Constant_int ⟨.int i,H,I.tok _,⟨_,rfl⟩,h⟩
theorem dU {x j pos}:PE X (.Constant (.str x) j pos) (tC (.str x)):=λ_ _ _ H _ I h=>Calls.Constant_str ⟨.str x,H,I.tok _,⟨_,rfl⟩,h⟩
def Gl (X:Cx)(x:Str):Prop:=X.env.kindOf x=some .globalImplicit
theorem jQ {E:Value->Shared->Prop}{pins:List (Addr×Obj)}{s:Shared}{σ:St}{H:Hp}{x:Str}{u:Value}{pos:Pos}{Q:Value->Shared->Prop}(I:Inv X pins σ H s)(hg:Gl X x)(hm:X.mg x=some u)(h:Q u s)
  (hd:(x==("__debug__" : Str))=false:=by decide):wpAny (model X.prog X.w) X.A (eval (.Name x pos) X.env) Q E s:=
 Calls.Name_function_global I.ok.kind hg (Calls.loadGlobal_global (by rw[I.ok.glob];exact I.mod.glob.keeps I.bk) hm h) hd
theorem uC {E:Value->Shared->Prop}{pins:List (Addr×Obj)}{s:Shared}{σ:St}{H:Hp}{x:Str}{u:Value}{pos:Pos}{Q:Value->Shared->Prop}(I:Inv X pins σ H s)(hg:Gl X x)(hm:X.mg x=none)(hv:bootBuiltins x=some u)(h:Q u s)
  (hn:x ≠ "__name__" := by decide) (hd:(x==("__debug__" : Str))=false:=by decide):wpAny (model X.prog X.w) X.A (eval (.Name x pos) X.env) Q E s:=by
 obtain ⟨mb,h1,h2⟩:=I.mod.blt;exact Calls.Name_function_global I.ok.kind hg (Calls.loadGlobal_builtin (by rw[I.ok.glob];exact I.mod.glob.keeps I.bk) hm (by rw[I.ok.blt];exact h1.keeps I.bk) ((h2 x hn).trans hv) h) hd
theorem yP {x:Str}{v:V}{u:Value}{pos:Pos}(hg:Gl X x)(hm:X.mg x=some u)(r:bP v u)(hd:(x==("__debug__" : Str))=false:=by decide):PE X (.Name x pos) (tC v):=
 λ_ _ _ H _ I h=>jQ I hg hm ⟨v,H,I,r,h⟩ hd
variable {a b:Expr}{ta tb:TE}{pos:Pos}
def PC (X:Cx)(op:CmpOp)(a b:Expr)(t:TE):Prop:=
 ∀ (pins:List (Addr×Obj)) (s:Shared) (σ:St) (H:Hp) (Q:VK),Inv X pins σ H s->t σ H Q->
  wpAny (model X.prog X.w) X.A (eval a X.env) (λv s₁=>wpAny (model X.prog X.w) X.A (eval b X.env) (λu s₂=>wpAny (model X.prog X.w) X.A (compareOp op v u) (EP X pins σ Q) X.xe s₂) X.xe s₁) X.xe s
inductive BlI (x:V) (H:Hp) (Q:Bool->Hp->Prop):Prop
 | mk:∀ c,x=.bl c->Q c H->BlI x H Q
theorem R1 {x:V}{H:Hp}{Q:Bool->Hp->Prop}:BlI x H Q↔∃ c,x=.bl c/\Q c H:=⟨λ⟨a,b,c⟩=>⟨a,b,c⟩,λ⟨a,b,c⟩=>⟨a,b,c⟩⟩
def tB (t:TE):TT:=λσ H Q=>t σ H λx H1=>BlI x H1 Q
theorem E3 {op:CmpOp}{t:TE}(h:PC X op a b t)(h1:behindInMarks op b=false:=by first|exact nobehind _ (by decide) (by decide)|rfl):PT X (.Compare a [op] [b] pos) (tB t):=by
 intro pins s σ H Q I hw;refine wpAny_isTrue_Compare1 (thn (h pins s σ H _ I hw) λv s1 h1=>thn h1 λu s2 h2=>thn h2 λc s3 ⟨x,H1,I1,r1,q1⟩=>?_) h1;obtain ⟨d,rfl,q⟩:=q1;cases r1;exact wpAny_truthy_bool ⟨H1,I1,q⟩
theorem cE {e:Expr}{t:TE}(h:PE X e t)(he:∀ whole,isTrue e X.env whole=(do let v ← whole;standAt e.pos;holding [v] (truthy v)):=by intro _;rfl):PT X e (tB t):=by
 intro pins s σ H Q I hw;refine isTrue_plain (thn (h pins s σ H _ I hw) λv s1 ⟨x,H1,I1,r1,q1⟩=>?_) (he _);obtain ⟨d,rfl,q⟩:=q1;cases r1;exact wpAny_truthy_bool ⟨H1,I1,q⟩
variable {tA tB':TT}{rest:List Expr}
def UB (t u:TT):TT:=λσ H Q=>t σ H λc H1=>if c=true then u σ H1 Q else Q false H1
def tOr (t u:TT):TT:=λσ H Q=>t σ H λc H1=>if c=true then Q true H1 else u σ H1 Q
def UI (t:TT):TT:=λσ H Q=>t σ H λc H1=>Q (!c) H1
theorem gV (ha:PT X a tA):PW X (.BoolOp .And [a] pos) tA:=by
 intro wh pins s σ H Q I h;refine isTrue_and (thn (ha pins s σ H Q I h) λc s1 e=>?_)
 cases c with
 | true=>exact isTrue_and_nil e
 | false=>exact e
theorem iJ (ha:PT X a tA):PW X (.BoolOp .Or [a] pos) tA:=by
 intro wh pins s σ H Q I h;refine isTrue_or (thn (ha pins s σ H Q I h) λc s1 e=>?_)
 cases c with
 | false=>exact isTrue_or_nil e
 | true=>exact e
theorem jZ (ha:PT X a tA)(hb:PW X (.BoolOp .And (b::rest) pos) tB'):PW X (.BoolOp .And (a::b::rest) pos) (UB tA tB'):=by
 intro wh pins s σ H Q I h;refine isTrue_and (thn (ha pins s σ H _ I h) λc s1 ⟨H1,I1,q1⟩=>?_)
 cases c with
 | true=>exact hb wh pins s1 σ H1 Q I1 q1
 | false=>exact ⟨H1,I1,q1⟩
theorem kO (ha:PT X a tA)(hb:PW X (.BoolOp .Or (b::rest) pos) tB'):PW X (.BoolOp .Or (a::b::rest) pos) (tOr tA tB'):=by
 intro wh pins s σ H Q I h;refine isTrue_or (thn (ha pins s σ H _ I h) λc s1 ⟨H1,I1,q1⟩=>?_)
 cases c with
 | true=>exact ⟨H1,I1,q1⟩
 | false=>exact hb wh pins s1 σ H1 Q I1 q1
theorem gJ (ha:PT X a tA):PT X (.UnaryOp .Not a pos) (UI tA):=by
 intro pins s σ H Q I h;exact isTrue_not (ha pins s σ H (λc H1=>Q (!c) H1) I h)
def NQ (ta tb:TE):TE:=λσ H Q=>ta σ H λx H1=>BlI x H1 λc H1=>if c=true then tb σ H1 Q else Q (.bl false) H1
def UJ (ta tb:TE):TE:=λσ H Q=>ta σ H λx H1=>BlI x H1 λc H1=>if c=true then Q (.bl true) H1 else tb σ H1 Q
def S0 (ta:TE):TE:=λσ H Q=>ta σ H λx H1=>BlI x H1 λc H1=>Q (.bl (!c)) H1
theorem yQ {op}{t:TE}(h:PE X a t):PE X (.BoolOp op [a] pos) t:=λpins s σ H Q I hw=>BoolOp_one (h pins s σ H Q I hw)
theorem yO (ha:PE X a ta)(hb:PE X (.BoolOp .And (b::rest) pos) tb):PE X (.BoolOp .And (a::b::rest) pos) (NQ ta tb):=by
 intro pins s σ H Q I h;refine BoolOp_and (thn (ha pins s σ H _ I h) λv s1 ⟨x,H1,I1,r1,q1⟩=>?_);obtain ⟨c,rfl,q1⟩:=q1;cases r1;refine wpAny_truthy_bool ?_
 cases c with
 | true=>exact hb pins s1 σ H1 Q I1 q1
 | false=>exact ⟨.bl false,H1,I1,rfl,q1⟩
theorem VX (ha:PE X a ta)(hb:PE X (.BoolOp .Or (b::rest) pos) tb):PE X (.BoolOp .Or (a::b::rest) pos) (UJ ta tb):=by
 intro pins s σ H Q I h;refine BoolOp_or (thn (ha pins s σ H _ I h) λv s1 ⟨x,H1,I1,r1,q1⟩=>?_);obtain ⟨c,rfl,q1⟩:=q1;cases r1;refine wpAny_truthy_bool ?_
 cases c with
 | false=>exact hb pins s1 σ H1 Q I1 q1
 | true=>exact ⟨.bl true,H1,I1,rfl,q1⟩
def tIf (t:TT)(ta tb:TE):TE:=λσ H Q=>t σ H λc H1=>if c=true then ta σ H1 Q else tb σ H1 Q
theorem BO {c:Expr}(hc:PT X c tA)(ha:PE X a ta)(hb:PE X b tb):PE X (.IfExp c a b pos) (tIf tA ta tb):=by
 intro pins s σ H Q I h;refine wpAny_IfExp (thn (hc pins s σ H _ I h) λd s1 ⟨H1,I1,q1⟩=>?_)
 cases d with
 | true=>exact ha pins s1 σ H1 Q I1 q1
 | false=>exact hb pins s1 σ H1 Q I1 q1
end
end L2
namespace L2
open PySem PySem.Spec PyProof.Rows
def SqL (K:PySem.W.Frag)(H:Hp)(a:Addr)(xs:List V):Prop:=
 Rd H a (.lst xs)∨
  ∃ (o:Obj) (its:Array Value) (n:Nat),K.lookup a=some o/\o.cls=.type "list" /\ o.dict=none/\o.data=.seq its n/\its.size<=sizeLine/\bH xs its.toList
def SqT (K:PySem.W.Frag)(H:Hp)(a:Addr)(xs:List V):Prop:=
 Rd H a (.tup xs)∨
  ∃ (o:Obj) (its:Array Value) (n:Nat),K.lookup a=some o/\o.cls=.type "tuple" /\ o.data=.seq its n/\its.size<=sizeLine/\bH xs its.toList
def absV:Value->Option V
 | .none=>some .non
 | .bool b=>some (.bl b)
 | .int i _=>some (.int i)
 | .str x _=>some (.str x)
 | .bytes b _=>some (.byt b)
 | .float b _=>some (.flt b)
 | .ref a=>some (.ref a)
 | .type n=>some (.ty n)
 | _=>none
theorem bP.abs {x:V}{u:Value}(r:bP x u):absV u=some x:=by
 cases x with
 | non=>cases r;rfl
 | bl _=>cases r;rfl
 | int _=>obtain ⟨t,rfl⟩:=r;rfl
 | str _=>obtain ⟨t,rfl⟩:=r;rfl
 | byt _=>obtain ⟨t,rfl⟩:=r;rfl
 | flt _=>obtain ⟨t,rfl⟩:=r;rfl
 | ref _=>cases r;rfl
 | ty _=>cases r;rfl
theorem bP.inj {x y:V}{u:Value}(r:bP x u)(q:bP y u):x=y:=Option.some.inj (r.abs.symm.trans q.abs)
theorem bH.inj:∀ {xs ys:List V} {us:List Value},bH xs us->bH ys us->xs=ys
 | _,_,_,.nil,.nil=>rfl
 | _,_,_,.cons r t,.cons r' t'=>by rw[r.inj r',bH.inj t t']
section
variable {X:Cx}{pins:List (Addr×Obj)}{σ:St}{H:Hp}{s:Shared}{a:Addr}{xs ys:List V}
theorem SqL.of {K:PySem.W.Frag}(h:H a=some (.lst xs)):SqL K H a xs:=.inl (.inl h)
theorem SqT.of {K:PySem.W.Frag}(h:H a=some (.tup xs)):SqT K H a xs:=.inl (.inl h)
theorem Inv.list (I:Inv X pins σ H s)(h:SqL X.K H a xs):∃ its:List Value,bH xs its/\PlainL s.heap a its.toArray/\xs.length<=sizeLine:=by
 rcases h with h|⟨o,its,n,hk,hc,hd,hs,hz,r⟩
 ·obtain ⟨z,its,n,r,e⟩:=h.ok I.hok;exact ⟨its,r,⟨_,n,e,rfl,rfl,rfl⟩,z⟩
 ·refine ⟨its.toList,r,⟨o,n,I.kIn a o hk,hc,hd,by simpa using hs⟩,?_⟩;have e:=r.length;simp only[Array.length_toList] at e;lia
theorem Inv.tuple (I:Inv X pins σ H s)(h:SqT X.K H a xs):∃ its:List Value,bH xs its/\IsTup s.heap a its.toArray/\xs.length<=sizeLine:=by
 rcases h with h|⟨o,its,n,hk,hc,hs,hz,r⟩
 ·obtain ⟨z,its,r,p⟩:=h.ok I.hok;exact ⟨its,r,p,z⟩
 ·refine ⟨its.toList,r,⟨o,I.kIn a o hk,hc,n,by simpa using hs⟩,?_⟩;have e:=r.length;simp only[Array.length_toList] at e;lia
theorem Inv.list_inj (I:Inv X pins σ H s)(h:SqL X.K H a xs)(h':SqL X.K H a ys):xs=ys:=by
 obtain ⟨its,r,⟨o,n,e,_,_,d⟩,_⟩:=I.list h;obtain ⟨its',r',⟨o',n',e',_,_,d'⟩,_⟩:=I.list h';rw[e] at e';cases e';rw[d] at d'
 injection d' with d1 _
 have:its=its':=by simpa using congrArg Array.toList d1
 subst this;exact r.inj r'
end
abbrev Cx.wish (X:Cx)(E:Value->Shared->Prop):Cx:={ X with xe:=E }
abbrev Cx.nox (X:Cx):Cx:=X.wish λ_ _=>False
theorem Cx.Ok.wish {X:Cx}(ok:X.Ok)(E:Value->Shared->Prop):(X.wish E).Ok:=
 ⟨ok.mod,ok.kind,ok.glob,ok.blt,ok.above,ok.inj,ok.has,ok.cab,ok.hd,ok.frames,ok.stk,ok.exf,ok.bs,ok.bsz,ok.noex,ok.exfs,ok.funs,ok.frf⟩
theorem Cx.Ok.unwish {X:Cx}{E:Value->Shared->Prop}(ok:(X.wish E).Ok):X.Ok:=
 ⟨ok.mod,ok.kind,ok.glob,ok.blt,ok.above,ok.inj,ok.has,ok.cab,ok.hd,ok.frames,ok.stk,ok.exf,ok.bs,ok.bsz,ok.noex,ok.exfs,ok.funs,ok.frf⟩
section
variable {X:Cx}{pins:List (Addr×Obj)}{σ:St}{H:Hp}{s:Shared}{E:Value->Shared->Prop}
theorem Inv.wish (I:Inv X pins σ H s)(E:Value->Shared->Prop):Inv (X.wish E) pins σ H s:=⟨I.ok.wish E,I.os,I.bare,I.base,I.loc,I.cell,I.free,I.freeC,I.pin,I.hok,I.len⟩
theorem Inv.unwish (I:Inv (X.wish E) pins σ H s):Inv X pins σ H s:=⟨I.ok.unwish,I.os,I.bare,I.base,I.loc,I.cell,I.free,I.freeC,I.pin,I.hok,I.len⟩
theorem SP.unwish {D:vU}{f:Flow}{s':Shared}(h:SP (X.wish E) pins D f s'):SP X pins D f s':=by
 cases f with
 | next=>obtain ⟨σ',H',I,q⟩:=h;exact ⟨σ',H',I.unwish,q⟩
 | brk=>obtain ⟨σ',H',I,q⟩:=h;exact ⟨σ',H',I.unwish,q⟩
 | cont=>obtain ⟨σ',H',I,q⟩:=h;exact ⟨σ',H',I.unwish,q⟩
 | ret u=>obtain ⟨v,σ',H',I,r,q⟩:=h;exact ⟨v,σ',H',I.unwish,r,q⟩
theorem PSs.nox {st:List Stmt}{t:TS}(h:PSs X.nox st t):PSs X st t:=λpins s σ H D I hw=>
 wpAny_mono (h pins s σ H D (I.wish _) hw) (λ_ _ q=>q.unwish) λ_ _ z=>False.elim z
end
section
variable {X:Cx}{st:Stmt}{rest:List Stmt}{t u:TS}{e:Expr}{te:TE}{pos:Pos}
def NT:TS:=λD σ H=>D.nx σ H
def UL (t u:TS):TS:=λD σ H=>t { D with nx:=u D } σ H
theorem aV:PSs X [] NT:=λ_ _ σ H _ I h=>wpAny_execs_nil ⟨σ,H,I,h⟩
theorem aG (h1:PS X st t)(h2:PSs X rest u):PSs X (st::rest) (UL t u):=by
 intro pins s σ H D I h;refine wpAny_execs_cons (thn (h1 pins s σ H { D with nx:=u D } I h) λf s1 q=>?_)
 cases f with
 | next=>
  obtain ⟨σ',H',I',q⟩:=q;exact h2 pins s1 σ' H' D I' q
 | ret v=>exact q
 | brk=>exact q
 | cont=>exact q
theorem aE (h1:PS X st t):PSs X [st] t:=by
 intro pins s σ H D I h;refine wpAny_execs_cons (thn (h1 pins s σ H D I h) λf s1 q=>?_)
 cases f with
 | next=>exact wpAny_execs_nil q
 | ret v=>exact q
 | brk=>exact q
 | cont=>exact q
theorem Inv.quiet {pins:List (Addr×Obj)}{σ:St}{H:Hp}{s:Shared}(I:Inv X pins σ H s):interactive X.env=false:=by simp[interactive,I.ok.kind]
def NS (te:TE):TS:=λD σ H=>te σ H λ_ H1=>D.nx σ H1
theorem bE (he:PE X e te)(hs:swapsWith e none pos.line X.env=pure false:=by rfl):PS X (.Expr e pos) (NS te):=by
 intro pins s σ H D I h;exact wpAny_Expr_any (thn (he pins s σ H _ I h) λv s1 ⟨x,H1,I1,r1,q1⟩=>⟨σ,H1,I1,q1⟩) I.quiet hs
def UK (te:TE):TS:=λD σ H=>te σ H D.rt
theorem aP (he:PE X e te):PS X (.Return (some e) pos) (UK te):=by
 intro pins s σ H D I h;exact wpAny_Return_some (thn (he pins s σ H _ I h) λv s1 ⟨x,H1,I1,r1,q1⟩=>⟨x,σ,H1,I1,r1,q1⟩)
def S2:TS:=λD _ H=>D.rt .non H
def UG (c:TT)(t u:TS):TS:=λD σ H=>c σ H λb H1=>if b=true then t D σ H1 else u D σ H1
theorem bC {c:Expr}{a b:List Stmt}{tc:TT}(hc:PT X c tc)(ha:PSs X a t)(hb:PSs X b u):PS X (.If c a b pos) (UG tc t u):=by
 intro pins s σ H D I h;refine wpAny_If (thn (hc pins s σ H _ I h) λd s1 ⟨H1,I1,q1⟩=>?_)
 cases d with
 | true=>exact ha pins s1 σ H1 D I1 q1
 | false=>exact hb pins s1 σ H1 D I1 q1
end
abbrev TG:=V->St->Hp->(St->Hp->Prop)->Prop
abbrev TGs:=List V->St->Hp->(St->Hp->Prop)->Prop
def PG (X:Cx)(target:Expr)(t:TG):Prop:=
 ∀ (pins:List (Addr×Obj)) (s:Shared) (σ:St) (H:Hp) (v:V) (u:Value) (Q:St->Hp->Prop),Inv X pins σ H s->bP v u->t v σ H Q->
  wpAny (model X.prog X.w) X.A (assign target X.env u) (λ_ s'=>∃ σ' H',Inv X pins σ' H' s'/\Q σ' H') X.xe s
def PGs (X:Cx)(ts:List Expr)(t:TGs):Prop:=
 ∀ (pins:List (Addr×Obj)) (s:Shared) (σ:St) (H:Hp) (vs:List V) (us:List Value) (Q:St->Hp->Prop),Inv X pins σ H s->bH vs us->t vs σ H Q->
  wpAny (model X.prog X.w) X.A (assignInOrder ((assignEach ts X.env).map (·.2)) us) (λ_ s'=>∃ σ' H',Inv X pins σ' H' s'/\Q σ' H') X.xe s
abbrev SA:=V->V->V->Hp->(Hp->Prop)->Prop
def V4 (X:Cx)(t:SA):Prop:=
 ∀ (pins:List (Addr×Obj)) (s:Shared) (σ:St) (H:Hp) (o i v:V) (ov iv u:Value) (Q:Hp->Prop),Inv X pins σ H s->bP o ov->bP i iv->bP v u->t o i v H Q->
  wpAny (model X.prog X.w) X.A (setItem ov iv u) (λ_ s'=>∃ H',Inv X pins σ H' s'/\Q H') X.xe s
abbrev TIp:=V->V->Hp->VK->Prop
def PIp (X:Cx)(op:Operator)(t:TIp):Prop:=
 ∀ (pins:List (Addr×Obj)) (s:Shared) (σ:St) (H:Hp) (x y:V) (v u:Value) (Q:VK),Inv X pins σ H s->bP x v->bP y u->t x y H Q->
  wpAny (model X.prog X.w) X.A (inplaceOp op v u) (EP X pins σ Q) X.xe s
section
variable {X:Cx}{pos:Pos}
def FV (i:Nat):TG:=λv σ H Q=>Q (σ.set i (some v)) H
theorem dQ {i:Nat}{x:Str}(hN:X.N.Nodup)(hi:X.N[i]?=some x)(hx:Loc X.env.scope x)(hf:X.fn x=true∨X.env.scope.names.lookup x=some .local:=by first|exact .inl rfl|exact .inr rfl|assumption):PG X (.Name x pos) (FV i):=by
 intro pins s σ H v u Q I r h;exact wpAny_assign_Name (qD I hN hi hx r (λs' I'=>⟨_,H,I',h⟩) hf)
def gNil:TGs:=λvs σ H Q=>vs=[]/\Q σ H
inductive RE (t:TG) (u:TGs) (vs:List V) (σ:St) (H:Hp) (Q:St->Hp->Prop):Prop
 | mk:∀ v r,vs=v::r->(t v σ H λσ' H'=>u r σ' H' Q)->RE t u vs σ H Q
theorem Q3:PGs X [] gNil:=by
 intro pins s σ H vs us Q I r h;obtain ⟨e,h⟩:=h;subst e;cases r;exact assignInOrder_nil ⟨σ,H,I,h⟩
theorem BQ {e:Expr}{es:List Expr}{t:TG}{u:TGs}(h1:PG X e t)(h2:PGs X es u)
  (hs:(assignEach (e::es) X.env).map (·.2)=assign e X.env::(assignEach es X.env).map (·.2):=by rfl):PGs X (e::es) (RE t u):=by
 intro pins s σ H vs us Q I r h;obtain ⟨v,vr,e1,h⟩:=h;subst e1
 cases r with
 | cons r rr=>
  rw[hs];refine assignInOrder_cons (thn (h1 pins s σ H _ _ _ I r h) λ_ s1 ⟨σ1,H1,I1,q1⟩=>?_);exact h2 pins s1 σ1 H1 _ _ Q I1 rr q1
inductive VF (K:PySem.W.Frag) (n:Nat) (t:TGs) (v:V) (σ:St) (H:Hp) (Q:St->Hp->Prop):Prop
 | mk:∀ a xs,v=.ref a->SqT K H a xs->xs.length=n->t xs σ H Q->VF K n t v σ H Q
theorem TF {es:List Expr}{k:Nat}{t:TGs}{n:Nat}(hc:X.calm=true)(h:PGs X es t)
  (hn:(assignEach es X.env).length=n:=by rfl) (hst:(assignEach es X.env).findIdx? (·.1)=none:=by rfl):PG X (.Tuple es k pos) (VF X.K n t):=by
 intro pins s σ H v u Q I r hw;obtain ⟨a,xs,e1,hq,hl,hw⟩:=hw;subst e1;cases r;obtain ⟨its,rv,ht,hz⟩:=I.tuple hq;refine assign_Tuple_tuple (I.ok.hd hc) ht (by simp[hn,← hl,rv.length]) hst λh' hx=>?_;have I1:Inv X pins σ H { s with heap:=h' }:=I.kept (t':=s.toks) λb o e=>hx b o (Nat.ne_of_lt (Heap.lt_size e)) e;exact h pins _ σ H xs _ Q I1 (by simpa using rv) hw
def gSub (to ti:TE)(t:SA):TG:=λv σ H Q=>to σ H λo H1=>ti σ H1 λi H2=>t o i v H2 λH3=>Q σ H3
theorem rA {o i:Expr}{to ti:TE}{t:SA}(ho:PE X o to)(hi:PE X i ti)(hs:V4 X t)
  (ha:∀ v,assign (.Subscript o i pos) X.env v=(do
   let ov ← holding [v] (eval o X.env)
   let iv ← holding [v,ov] (eval i X.env)
   standAt pos
   holding [v,ov,iv] (setItem ov iv v)
   release [v,ov,iv] []):=by intro _;rfl):PG X (.Subscript o i pos) (gSub to ti t):=by
 intro pins s σ H v u Q I r h;rw[ha];refine wpAny_bind (wpAny_holding (thn (ho pins s σ H _ I h) λov s1 ⟨x,H1,I1,r1,q1⟩=>?_));refine wpAny_bind (wpAny_holding (thn (hi pins s1 σ H1 _ I1 q1) λiv s2 ⟨y,H2,I2,r2,q2⟩=>?_));refine wpAny_bind (wpAny_standAt (wpAny_bind (wpAny_holding (thn (hs pins s2 σ H2 x y v ov iv u _ I2 r1 r2 r q2) λ_ s3 ⟨H3,I3,q3⟩=>?_))));exact wpAny_release ⟨σ,H3,I3,q3⟩
def QT (te:TE)(g:TG):TS:=λD σ H=>te σ H λx H1=>g x σ H1 D.nx
theorem rC {tg e:Expr}{te:TE}{g:TG}(he:PE X e te)(hg:PG X tg g)(hs:swapsWithSole [tg] e pos.line X.env=pure false:=by rfl)(hw:swappedStores [tg] e X.env=pure none:=by rfl)
  (h1:(assignEach [tg] X.env).map (·.2)=[assign tg X.env]:=by rfl):PS X (.Assign [tg] e pos) (QT te g):=by
 intro pins s σ H D I h;refine wpAny_Assign_stores (thn (he pins s σ H _ I h) λv s1 ⟨x,H1,I1,r1,q1⟩=>?_) hs hw;rw[h1];exact thn (hg pins s1 σ H1 x v _ I1 r1 q1) λ_ s2 q=>q
theorem aQ {i:Nat}{x:Str}{e:Expr}{te:TE}{pos':Pos}(hN:X.N.Nodup)(hi:X.N[i]?=some x)(hx:Loc X.env.scope x)(he:PE X e te)(hs:swapsWith e (some (.Name x pos')) pos.line X.env=pure false:=by rfl)(hf:X.fn x=true∨X.env.scope.names.lookup x=some .local:=by first|exact .inl rfl|exact .inr rfl|assumption):
  PS X (.Assign [.Name x pos'] e pos) (QT te (FV i)):=by
 intro pins s σ H D I h;refine wpAny_Assign_Name (thn (he pins s σ H _ I h) λv s1 ⟨y,H1,I1,r1,q1⟩=>?_) hs;exact qD I1 hN hi hx r1 (λs2 I2=>⟨_,H1,I2,q1⟩) hf
def UC (i:Nat)(te:TE)(ti:TIp):TS:=λD σ H=>NW i σ H λx H=>te σ H λy H1=>ti x y H1 λz H2=>D.nx (σ.set i (some z)) H2
theorem yS {i:Nat}{x:Str}{e:Expr}{te:TE}{op:Operator}{ti:TIp}{pos':Pos}(hN:X.N.Nodup)(hi:X.N[i]?=some x)(hx:Loc X.env.scope x)(he:PE X e te)(ho:PIp X op ti)(hf:X.fn x=true∨X.env.scope.names.lookup x=some .local:=by first|exact .inl rfl|exact .inr rfl|assumption):
  PS X (.AugAssign (.Name x pos') op e pos) (UC i te ti):=by
 intro pins s σ H D I h;obtain ⟨v,e1,h⟩:=h;obtain ⟨m,hn,hl⟩:=I.loc
 have vis:Vis X.env.scope x:=by rcases hx with k|k;exact .inl k;exact .inr (.inl k)
 obtain ⟨u,r,l⟩:=hl i x v hi e1 vis;refine wpAny_AugAssign_Name ?_
 have go:wpAny (model X.prog X.w) X.A (eval e X.env) (λw s₂=>wpAny (model X.prog X.w) X.A (inplaceOp op u w) (λr s₃=>wpAny (model X.prog X.w) X.A (storeName X.env x r) (λ_=>SP X pins D .next) X.xe s₃) X.xe s₂) X.xe s:=by
  refine thn (he pins s σ H _ I h) λw s1 ⟨y,H1,I1,r1,q1⟩=>?_;refine thn (ho pins s1 σ H1 v y u w _ I1 r r1 q1) λz s2 ⟨zv,H2,I2,r2,q2⟩=>?_;exact qD I2 hN hi hx r2 (λs3 I3=>⟨_,H2,I3,q2⟩) hf
 rcases l with ⟨hk,hm⟩|⟨hk,c,hc,hcell⟩
 ·exact wpAny_loadName_local I.ok.kind hk hn hm go
 ·rcases hk with hk|hk
  ·exact wpAny_loadName_cell I.ok.kind hk hc hcell go
  ·rcases hx with k|k
   ·have:X.env.scope.names.lookup x=some .free:=hk
    rw[k] at this;cases this
   ·have:X.env.scope.names.lookup x=some .free:=hk
    rw[k] at this;cases this
inductive ipI (f:Int->Int->Int) (x y:V) (H:Hp) (Q:VK):Prop
 | mk:∀ i j,x=.int i->y=.int j->Q (.int (f i j)) H->ipI f x y H Q
theorem RF {f:Int->Int->Int}{x y:V}{H:Hp}{Q:VK}:ipI f x y H Q↔∃ i j,x=.int i/\y=.int j/\Q (.int (f i j)) H:=⟨λ⟨a0,a1,a2,a3,a4⟩=>⟨a0,a1,a2,a3,a4⟩,λ⟨a0,a1,a2,a3,a4⟩=>⟨a0,a1,a2,a3,a4⟩⟩
theorem yD:PIp X .Add (ipI λi j=>i+j):=by
 intro pins s σ H x y v u Q I r1 r2 h;obtain ⟨i,j,e1,e2,q⟩:=h;subst e1;subst e2;obtain ⟨t,rfl⟩:=r1;obtain ⟨t',rfl⟩:=r2;exact iadd_int ⟨.int _,H,I.tok _,⟨_,rfl⟩,q⟩
end
section
variable {X:Cx}{pos:Pos}
def vI (c:TT)(tb:TS):TS:=λD σ H=>∃ W:Nat->St->Hp->Prop,(∃ m,W m σ H)/\∀ m σ H,W m σ H->
 c σ H λb H1=>if b=true then ∃ N:St->Hp->Prop,(∀ σ' H',N σ' H'->∃ m',m'<m/\W m' σ' H')/\tb { D with nx:=N,ct:=N,bk:=D.nx } σ H1 else D.nx σ H1
theorem eC {c:Expr}{body:List Stmt}{tc:TT}{tb:TS}(hp:PassesOwn (model X.prog X.w) X.A X.env X.xe)(hc:PT X c tc)(hb:PSs X body tb):PS X (.While c body [] pos) (vI tc tb):=by
 intro pins s σ H D I h;obtain ⟨W,⟨m0,w0⟩,turn⟩:=h;refine wpAny_While (codeAny_whileLoop (λn s'=>∃ σ' H',Inv X pins σ' H' s'/\W n σ' H') ?_ m0 ⟨σ,H,I,w0⟩);rintro n s1 ⟨σ1,H1,I1,w1⟩;refine wpAny_passesOwn hp (thn (hc pins s1 σ1 H1 _ I1 (turn n σ1 H1 w1)) λb s2 ⟨H2,I2,q2⟩=>?_)
 cases b with
 | true=>
  obtain ⟨N,hN,q2⟩:=q2;rw[if_pos rfl];refine wpAny_passesOwn hp (thn (hb pins s2 σ1 H2 _ I2 q2) λf s3 q3=>?_)
  cases f with
  | next=>
   obtain ⟨σ3,H3,I3,n3⟩:=q3;obtain ⟨m',hm,w3⟩:=hN σ3 H3 n3;exact ⟨m',hm,σ3,H3,I3,w3⟩
  | cont=>
   obtain ⟨σ3,H3,I3,n3⟩:=q3;obtain ⟨m',hm,w3⟩:=hN σ3 H3 n3;exact ⟨m',hm,σ3,H3,I3,w3⟩
  | brk=>exact q3
  | ret v=>exact q3
 | false=>
  rw[if_neg Bool.false_ne_true];exact wpAny_execs_nil ⟨σ1,H2,I2,q2⟩
end
structure It where
 go:Nat->Hp->Prop
 yld:Nat->Hp->V->Hp->Prop
 stop:Nat->Hp->Prop
def tF (X:Cx)(pins:List (Addr×Obj))(H:Hp)(b:Addr):Prop:=
 H b=none/\b≠X.env.locals/\b∉X.fs/\(b∈X.ex∨X.s_0.heap.objs.size<=b)/\(∀ x c,X.env.cells.lookup x=some c->c≠b)/\∀ p∈X.pn++pins,p.1≠b
theorem Inv.fpOk {X:Cx}{pins:List (Addr×Obj)}{σ:St}{H H':Hp}{s:Shared}{b:Addr}(I:Inv X pins σ H s)(hb:s.heap.objs.size<=b)(hn:H' b=none):tF X pins H' b:=by
 refine ⟨hn,Nat.ne_of_gt (Nat.lt_of_lt_of_le I.lt hb),I.nofs hb,.inr (Nat.le_trans I.sz hb),λx c e z=>?_,λp hp z=>?_⟩
 ·obtain ⟨v,q⟩:=I.cell x c e;exact absurd (Nat.lt_of_lt_of_le q.lt (by rw[z];exact hb)) (Nat.lt_irrefl _)
 ·exact absurd (Nat.lt_of_lt_of_le (Heap.lt_size (I.pin p hp).1) (by rw[z];exact hb)) (Nat.lt_irrefl _)
structure oP (P:Program)(w:World)(K:PySem.W.Frag)(tg:Expr)(J:It)(fp:List Addr)(it:Addr)(tn:Nat->Heap->Prop):Prop where
 mem:it∈fp
 obj:∀ i h,tn i h->∀ b∈fp,∃ o,h.get? b=some o/\∀ v,o.data≠.cell v
 keep:∀ i h h',tn i h->(∀ b∈fp,∀ o,h.get? b=some o->h'.get? b=some o)->tn i h'
 item:∀ (X:Cx),X.prog=P->X.w=w->X.K=K->X.calm=true->∀ (i:Nat) (pins:List (Addr×Obj)) (s:Shared) (σ:St) (H:Hp) (E:Value->Shared->Prop),Inv X pins σ H s->(∀ b∈fp,tF X pins H b)->tn i s.heap->J.go i H->
  wpAny (model P w) X.A (pyNext (.ref it)) (λr s1=>∃ u,r=some u/\
   wpAny (model P w) X.A (letOwnedTupleGo tg (.ref it) u) (λ_ s2=>∃ x H',Inv X pins σ H' s2/\bP x u/\J.yld i H x H'/\tn (i+1) s2.heap/\∀ b∈fp,H' b=none) E s1) E s
 done:∀ (X:Cx),X.prog=P->X.w=w->X.K=K->X.calm=true->∀ (i:Nat) (pins:List (Addr×Obj)) (s:Shared) (σ:St) (H:Hp) (E:Value->Shared->Prop),Inv X pins σ H s->(∀ b∈fp,tF X pins H b)->tn i s.heap->J.stop i H->
  wpAny (model P w) X.A (pyNext (.ref it)) (λr s1=>r=none/\Inv X pins σ H s1) E s
 self:∀ (A:Around) (i:Nat) (s:Shared) (Q:Value->Shared->Prop) (E:Value->Shared->Prop),tn i s.heap->Q (.ref it) s->wpAny (model P w) A (pyIter (.ref it)) Q E s
abbrev TI:=St->Hp->(It->Hp->Prop)->Prop
def PIE (X:Cx)(pins:List (Addr×Obj))(σ:St)(tg:Expr)(R:It->Hp->Prop)(itv:Value)(s2:Shared):Prop:=
 ∃ (it:Addr) (fp:List Addr) (tn:Nat->Heap->Prop) (J:It) (H':Hp),itv=.ref it/\Inv X pins σ H' s2/\oP X.prog X.w X.K tg J fp it tn/\tn 0 s2.heap/\(∀ b∈fp,tF X pins H' b)/\R J H'
def PI (X:Cx)(tg iter:Expr)(wi:TI):Prop:=
 ∀ (pins:List (Addr×Obj)) (s:Shared) (σ:St) (H:Hp) (R:It->Hp->Prop),Inv X pins σ H s->wi σ H R->
  wpAny (model X.prog X.w) X.A (eval iter X.env) (λv s1=>wpAny (model X.prog X.w) X.A (pyIter v) (PIE X pins σ tg R) X.xe s1) X.xe s
theorem LG {M:Model}{A:Around}{E:Value->Shared->Prop}{s:Shared}{tg:Expr}{it:Addr}{u:Value}{o:Obj}{n:String}{vs:Array Value}{Q:Unit->Shared->Prop}(ho:s.heap.get? it=some o)(hc:o.cls=.type n)(hd:o.data=.fields vs)
    (hn:["enumerate","zip","dict_itemiterator","dict_reverseitemiterator","odict_iterator","itertools.zip_longest","itertools.pairwise"].contains n=false) (hQ:Q () s):wpAny M A (letOwnedTupleGo tg (.ref it) u) Q E s:=by
  unfold letOwnedTupleGo
  cases tg<;>first
    | exact wpAny_pure hQ
    | (cases u<;>first
        | exact wpAny_pure hQ
        | (refine wpAny_bind (wpAny_load ho ?_)
           rw[hc,hd];show wpAny M A (if (["enumerate","zip","dict_itemiterator","dict_reverseitemiterator","odict_iterator","itertools.zip_longest","itertools.pairwise"].contains n&&vs[0]?==some (rawInt _))=true then _ else _) Q E s;rw[if_neg (by intro h;rw[hn,Bool.false_and] at h;cases h)]
           exact wpAny_pure hQ))
def Itl (K:PySem.W.Frag)(a:Addr):It:=
 ⟨λi H=>∃ xs x,SqL K H a xs/\xs[i]?=some x,λi H x H'=>H'=H/\∀ xs,SqL K H a xs->xs[i]?=some x,λi H=>∃ xs,SqL K H a xs/\xs.length<=i⟩
def Itr (lo:Int)(n:Nat):It:=⟨λi _=>i<n,λi H x H'=>H'=H/\x=.int (lo+i),λi _=>n<=i⟩
theorem K4 {P:Program}{w:World}{K:PySem.W.Frag}{tg:Expr}(a it:Addr):oP P w K tg (Itl K a) [it] it (λi h=>h.IsListIter it a i) where
 mem:=by simp
 obj:=λi h st b hb=>by
  have e:b=it:=by simpa using hb
  subst e;obtain ⟨o,e,c,d⟩:=st;exact ⟨o,e,λv z=>by rw[d] at z;cases z⟩
 keep:=λi h h' st k=>st.at λo e=>k it (by simp) o e
 item:=by
  intro X hP hw hK hc i pins s σ H E I hf st hg;subst hP hw hK;obtain ⟨xs,x,hq,hx⟩:=hg;obtain ⟨its,rv,p,hz⟩:=I.list hq;obtain ⟨u,hu,ru⟩:=rv.get hx;obtain ⟨f0,f1,f2,f3,f4,f5⟩:=hf it (by simp);refine wpAny_pyNext_list_item st p.isList (x:=u) (by simpa using hu) λh' st' sb=>?_;have I1:Inv X pins σ H { s with heap:=h' }:=I.turned (t':=s.toks) (λb o hb e=>(sb.2 b hb).trans e) f0 f1 f3 f4 f5;obtain ⟨o,e,c,d⟩:=id st';exact ⟨u,rfl,LG (s:={ s with heap:=h' }) e c d (by decide) ⟨x,H,I1,ru,⟨rfl,λys hy=>by rw[I.list_inj hy hq];exact hx⟩,st',λb hb=>(hf b hb).1⟩⟩
 done:=by
  intro X hP hw hK hc i pins s σ H E I hf st hg;subst hP hw hK;obtain ⟨xs,hq,hx⟩:=hg;obtain ⟨its,rv,p,hz⟩:=I.list hq;obtain ⟨f0,f1,f2,f3,f4,f5⟩:=hf it (by simp);have hl:=rv.length
  exact wpAny_pyNext_list_end (I.ok.hd hc) st p.isList (by simp;lia) λh' eb=>⟨rfl,I.turned (t':=s.toks) (λb o hb e=>eb b o hb e) f0 f1 f3 f4 f5⟩
 self:=λ_ _ _ _ _ st h=>wpAny_pyIter_listiter st h
theorem EY {P:Program}{w:World}{K:PySem.W.Frag}{tg:Expr}(it:Addr)(lo:Int)(n:Nat):oP P w K tg (Itr lo n) [it] it (λi h=>IsRangeIter h it (lo+(i:Nat)*1) ((n:Int)-(i:Nat)) 1) where
 mem:=by simp
 obj:=λi h st b hb=>by
  have e:b=it:=by simpa using hb
  subst e
  exact ⟨_,st,λv z=>by
   have z':Data.fields _=Data.cell v:=z
   cases z'⟩
 keep:=λi h h' st k=>k it (by simp) _ st
 item:=by
  intro X hP hw hK hc i pins s σ H E I hf st hg;subst hP hw hK;obtain ⟨f0,f1,f2,f3,f4,f5⟩:=hf it (by simp);have W:=Walks.range (prog:=X.prog) (w:=X.w) (I.ok.hd hc) it lo 1 n;refine W.item i s _ _ hg st λv h' tk hv st' kk=>?_;obtain ⟨t,rfl⟩:=hv;have I1:Inv X pins σ H { s with heap:=h',toks:=tk }:=I.turned (λb o hb e=>kk b o (by simpa using hb) e) f0 f1 f3 f4 f5;refine ⟨_,rfl,LG (s:={ s with heap:=h',toks:=tk }) (n := "range_iterator") st' rfl rfl (by decide) ⟨.int (lo+i),H,I1,⟨t,?_⟩,⟨rfl,rfl⟩,st',λb hb=>(hf b hb).1⟩⟩;rw[Int.mul_one]
 done:=by
  intro X hP hw hK hc i pins s σ H E I hf st hg;subst hP hw hK;obtain ⟨f0,f1,f2,f3,f4,f5⟩:=hf it (by simp)
  exact wpAny_pyNext_range_end (I.ok.hd hc) st (by have:n<=i:=hg;lia) λh' eb=>⟨rfl,I.turned (t':=s.toks) (λb o hb e=>eb b o hb e) f0 f1 f3 f4 f5⟩
 self:=λ_ _ _ _ _ st h=>wpAny_pyIter_rangeiter st h
end L2
namespace L2
open PySem PySem.Spec PyProof.Rows
section
variable {X:Cx}{tg:Expr}
inductive UZ (K:PySem.W.Frag) (x:V) (H:Hp) (R:It->Hp->Prop):Prop
 | mk:∀ a,x=.ref a->(∃ xs,SqL K H a xs)->R (Itl K a) H->UZ K x H R
def VL (K:PySem.W.Frag)(tl:TE):TI:=λσ H R=>tl σ H λx H1=>UZ K x H1 R
theorem jV {l:Expr}{tl:TE}(hl:PE X l tl):PI X tg l (VL X.K tl):=by
 intro pins s σ H R I h;refine thn (hl pins s σ H _ I h) λv s1 ⟨x,H1,I1,r1,q1⟩=>?_;obtain ⟨a,e,⟨xs,hq⟩,q⟩:=q1;subst e;cases r1;obtain ⟨its,rv,p,hz⟩:=I1.list hq;refine wpAny_pyIter_list p.isList ?_;refine ⟨s1.heap.objs.size,[s1.heap.objs.size],_,_,H1,rfl,I1.kept (t':=s1.toks) λb o e=>Heap.get?_push_of_some _ e,K4 a _,⟨_,Heap.get?_push_size _ rfl,rfl,rfl⟩,λb hb=>?_,q⟩;have e:b=s1.heap.objs.size:=by simpa using hb
 subst e;exact I1.fpOk (Nat.le_refl _) (I1.hok.fresh (Nat.le_refl _))
theorem MV {pins:List (Addr×Obj)}{σ:St}{H:Hp}{s:Shared}{R:It->Hp->Prop}{E:Value->Shared->Prop}{lo hi:Int}{t u v:Tok}{tk:Nat}(I:Inv X pins σ H s)(h1:-(2^62)<=lo)(h2:lo<2^62)(h3:-(2^62)<=hi)(h4:hi<2^62)
  (q:R (Itr lo (hi-lo).toNat) H):wpAny (model X.prog X.w) X.A (pyIter (.ref s.heap.objs.size)) (PIE X pins σ tg R) E { s with heap:=s.heap.push { cls:=.type "range",data:=.fields #[.int lo t,.int hi u,.int 1 v] },toks:=tk }:=by
 refine wpAny_pyIter_range (IsRange.new ..) (small_one h1 h2 h3 h4) ?_;have I1:Inv X pins σ H { s with heap:=s.heap.push { cls:=.type "range",data:=.fields #[.int lo t,.int hi u,.int 1 v] },toks:=tk }:=I.kept λb o e=>Heap.get?_push_of_some _ e
 refine ⟨(s.heap.push { cls:=.type "range",data:=.fields #[.int lo t,.int hi u,.int 1 v] }).objs.size,[(s.heap.push { cls:=.type "range",data:=.fields #[.int lo t,.int hi u,.int 1 v] }).objs.size],_,_,H,rfl,
  I1.kept (t':=tk) λb o e=>Heap.get?_push_of_some _ e,EY _ lo (hi-lo).toNat,?_,λb hb=>?_,q⟩
 ·have e1:lo+((0:Nat):Int)*1=lo:=by simp
  have e2:(((hi-lo).toNat:Nat):Int)-((0:Nat):Int)=Builtin.Range.rangeSize lo hi 1:=by rw[rangeSize_one];split<;>lia
  show IsRangeIter _ _ (lo+((0:Nat):Int)*1) ((((hi-lo).toNat:Nat):Int)-((0:Nat):Int)) 1;rw[e1,e2];exact Heap.get?_push_size _ rfl
 ·have e:b=(s.heap.push { cls:=.type "range",data:=.fields #[.int lo t,.int hi u,.int 1 v] }).objs.size:=by simpa using hb
  subst e;exact I1.fpOk (Nat.le_refl _) (I1.hok.fresh (Nat.le_refl _))
inductive V5 (vs:List V) (H:Hp) (R:It->Hp->Prop):Prop
 | mk:∀ j:Int,vs=[.int j]->-(2^62)<=j->j<2^62->R (Itr 0 j.toNat) H->V5 vs H R
def VM (ta:TA):TI:=λσ H R=>ta σ H λvs H1=>V5 vs H1 R
theorem mF {a:Expr}{ta:TA}{p pos:Pos}(hg:Gl X "range")(hm:X.mg "range" = none)(ha:PA X [a] ta)(hs:starEach [a] X.env=[(false,eval a X.env)]:=by rfl):PI X tg (.Call (.Name "range" p) [a] [] pos) (VM ta):=by
 intro pins s σ H R I h;refine Call_ (uC I hg hm boot_range (PyProof.Rows.callWith_type1 (thn (ha pos pins s σ H _ I h) λus s1 ⟨vs,H1,I1,r1,q1⟩=>?_) hs rfl));obtain ⟨j,e,q1,q2,q⟩:=q1;subst e
 cases r1 with
 | cons r rr=>
  cases rr;obtain ⟨t,rfl⟩:=r;exact call_range_1 (MV I1 (by lia) (by lia) q1 q2 (by simpa using q))
def tFor (wi:TI)(g:TG)(tb:TS):TS:=λD σ H=>wi σ H λJ H1=>∃ W:Nat->Nat->St->Hp->Prop,(∃ m,W 0 m σ H1)/\∀ i m σ H,W i m σ H->
 (J.stop i H/\D.nx σ H)∨(J.go i H/\∃ N:St->Hp->Prop,(∀ σ' H',N σ' H'->∃ m',m'<m/\W (i+1) m' σ' H')/\∀ x H',J.yld i H x H'->g x σ H' λσ2 H2=>tb { D with nx:=N,ct:=N,bk:=D.nx } σ2 H2)
def uN (fp:List Addr)(h:Heap):List (Addr×Obj):=fp.filterMap λb=>(h.get? b).map λo=>(b,o)
theorem n9 {fp:List Addr}{h:Heap}{b:Addr}{o:Obj}(hb:b∈fp)(e:h.get? b=some o):(b,o)∈uN fp h:=List.mem_filterMap.mpr ⟨b,hb,by rw[e];rfl⟩
theorem J4 {fp:List Addr}{h:Heap}{p:Addr×Obj}(hp:p∈uN fp h):p.1∈fp/\h.get? p.1=some p.2:=by
 obtain ⟨b,hb,e⟩:=List.mem_filterMap.mp hp
 cases q:h.get? b with
 | none=>rw[q] at e;cases e
 | some o=>
  rw[q] at e;have e':(b,o)=p:=Option.some.inj e;subst e';exact ⟨hb,q⟩
theorem Inv.pinned {pins:List (Addr×Obj)}{σ:St}{H:Hp}{s:Shared}{fp:List Addr}(I:Inv X pins σ H s)(hf:∀ b∈fp,tF X pins H b)(ho:∀ b∈fp,∃ o,s.heap.get? b=some o/\∀ v,o.data≠.cell v):Inv X (pins++uN fp s.heap) σ H s:=
 I.pins_of λp hp=>(List.mem_append.mp hp).elim (λz=>I.pin p (List.mem_append_right _ z)) λz=>by
  obtain ⟨hb,e⟩:=J4 z;obtain ⟨f0,f1,f2,_⟩:=hf p.1 hb;obtain ⟨o,e',d⟩:=ho p.1 hb;rw[e] at e';cases e';exact ⟨e,f0,f1,f2,d⟩
theorem Inv.unpinned {pins pl:List (Addr×Obj)}{σ:St}{H:Hp}{s:Shared}(I:Inv X (pins++pl) σ H s):Inv X pins σ H s:=I.pins_of λp hp=>I.pin p (List.mem_append_right _ (List.mem_append_left _ hp))
theorem jX {iter:Expr}{body:List Stmt}{wi:TI}{g:TG}{tb:TS}{pos:Pos}(hp:PassesOwn (model X.prog X.w) X.A X.env X.xe)(hc:X.calm=true)(hi:PI X tg iter wi)(hg:PG X tg g)(hb:PSs X body tb)
  (hs:∀ x,foldedSetIterable iter X.env x=pure x:=by intro _;rfl):PS X (.For tg iter body [] pos) (tFor wi g tb):=by
 intro pins s σ H D I h;refine wpAny_For (thn (hi pins s σ H _ I h) λv s1 h1=>thn h1 λitv s2 h2=>?_) hs;obtain ⟨it,fp,tn,J,H2,e,I2,T,st2,f2,W,⟨m0,w0⟩,turn⟩:=h2;subst e
 have stat:∀ {H':Hp},(∀ b∈fp,H' b=none)->∀ b∈fp,tF X pins H' b:=λhn b hb=>⟨hn b hb,(f2 b hb).2⟩
 refine codeAny_forLoop_any (λn s'=>∃ i σ' H',Inv X pins σ' H' s'/\tn i s'.heap/\(∀ b∈fp,H' b=none)/\W i n σ' H') ?_ m0 ⟨0,σ,H2,I2,st2,λb hb=>(f2 b hb).1,w0⟩;rintro n s3 ⟨i,σ3,H3,I3,st3,fr3,w3⟩
 rcases turn i n σ3 H3 w3 with ⟨stop,qn⟩|⟨go,N,hN,step⟩
 ·refine wpAny_passesOwn hp (thn (T.done X rfl rfl rfl hc i pins s3 σ3 H3 X.xe I3 (stat fr3) st3 stop) λr s4 ⟨hr,I4⟩=>?_);subst hr;exact wpAny_execs_nil ⟨σ3,H3,I4,qn⟩
 ·refine wpAny_passesOwn hp (thn (T.item X rfl rfl rfl hc i pins s3 σ3 H3 X.xe I3 (stat fr3) st3 go) λr s4 ⟨u,hr,h4⟩=>?_);subst hr;refine wpAny_passesOwn hp (thn h4 λ_ s5 ⟨x,H5,I5,r5,y5,st5,fr5⟩=>?_);have I5':=I5.pinned (stat fr5) (T.obj _ _ st5);refine wpAny_passesOwn hp (thn (hg _ s5 σ3 H5 x u _ I5' r5 (step x H5 y5)) λ_ s6 ⟨σ6,H6,I6,q6⟩=>?_);refine wpAny_passesOwn hp (thn (hb _ s6 σ6 H6 _ I6 q6) λf s7 q7=>?_)
  have again:∀ {σ7:St} {H7:Hp},Inv X (pins++uN fp s5.heap) σ7 H7 s7->N σ7 H7->∃ m,m<n/\∃ i σ' H',Inv X pins σ' H' s7/\tn i s7.heap/\(∀ b∈fp,H' b=none)/\W i m σ' H':=λ{σ7 H7} I7 n7=>by
   obtain ⟨m',hm,w7⟩:=hN σ7 H7 n7;refine ⟨m',hm,i+1,σ7,H7,I7.unpinned,T.keep _ _ _ st5 λb hb o e=>(I7.pin (b,o) (List.mem_append_right _ (List.mem_append_right _ (n9 hb e)))).1,λb hb=>?_,w7⟩;obtain ⟨o,e,d⟩:=T.obj _ _ st5 b hb;exact (I7.pin (b,o) (List.mem_append_right _ (List.mem_append_right _ (n9 hb e)))).2.1
  cases f with
  | next=>obtain ⟨σ7,H7,I7,n7⟩:=q7;exact again I7 n7
  | cont=>obtain ⟨σ7,H7,I7,n7⟩:=q7;exact again I7 n7
  | brk=>obtain ⟨σ7,H7,I7,q7⟩:=q7;exact ⟨σ7,H7,I7.unpinned,q7⟩
  | ret v=>obtain ⟨x7,σ7,H7,I7,r7,q7⟩:=q7;exact ⟨x7,σ7,H7,I7.unpinned,r7,q7⟩
end
theorem oY {K:PySem.W.Frag}{a:Addr}{xs:List V}{g:TG}{tb:TS}{D:vU}{σ:St}{H:Hp}(Pv:Nat->St->Hp->Prop)(h0:Pv 0 σ H)(hl:∀ i σ H,i<=xs.length->Pv i σ H->SqL K H a xs)
  (hs:∀ i x σ H,xs[i]?=some x->Pv i σ H->g x σ H λσ2 H2=>tb { D with nx:=Pv (i+1),ct:=Pv (i+1),bk:=D.nx } σ2 H2) (hd:∀ σ H,Pv xs.length σ H->D.nx σ H):
  ∃ W:Nat->Nat->St->Hp->Prop,(∃ m,W 0 m σ H)/\∀ i m σ H,W i m σ H->
   ((Itl K a).stop i H/\D.nx σ H)∨((Itl K a).go i H/\∃ N:St->Hp->Prop,(∀ σ' H',N σ' H'->∃ m',m'<m/\W (i+1) m' σ' H')/\∀ x H',(Itl K a).yld i H x H'->g x σ H' λσ2 H2=>tb { D with nx:=N,ct:=N,bk:=D.nx } σ2 H2):=by
 refine ⟨λi m σ H=>m=xs.length-i/\i<=xs.length/\Pv i σ H,⟨xs.length,by simp,Nat.zero_le _,h0⟩,?_⟩;rintro i m σ H ⟨rfl,hi,p⟩;have q:=hl i σ H hi p
 by_cases hlt:i<xs.length
 ·refine .inr ⟨⟨xs,xs[i],q,by simp[hlt]⟩,Pv (i+1),λσ' H' p'=>⟨xs.length-(i+1),by lia,rfl,hlt,p'⟩,λx H' y=>?_⟩;obtain ⟨e,y⟩:=y;subst e;exact hs i x σ _ (y xs q) p
 ·have e:i=xs.length:=by lia
  subst e;exact .inl ⟨⟨xs,q,Nat.le_refl _⟩,hd σ H p⟩
theorem qS {lo:Int}{n:Nat}{g:TG}{tb:TS}{D:vU}{σ:St}{H:Hp}(Pv:Nat->St->Hp->Prop)(h0:Pv 0 σ H)
  (hs:∀ i σ H,i<n->Pv i σ H->g (.int (lo+i)) σ H λσ2 H2=>tb { D with nx:=Pv (i+1),ct:=Pv (i+1),bk:=D.nx } σ2 H2) (hd:∀ σ H,Pv n σ H->D.nx σ H):
  ∃ W:Nat->Nat->St->Hp->Prop,(∃ m,W 0 m σ H)/\∀ i m σ H,W i m σ H->
   ((Itr lo n).stop i H/\D.nx σ H)∨((Itr lo n).go i H/\∃ N:St->Hp->Prop,(∀ σ' H',N σ' H'->∃ m',m'<m/\W (i+1) m' σ' H')/\∀ x H',(Itr lo n).yld i H x H'->g x σ H' λσ2 H2=>tb { D with nx:=N,ct:=N,bk:=D.nx } σ2 H2):=by
 refine ⟨λi m σ H=>m=n-i/\i<=n/\Pv i σ H,⟨n,by simp,Nat.zero_le _,h0⟩,?_⟩;rintro i m σ H ⟨rfl,hi,p⟩
 by_cases hlt:i<n
 ·refine .inr ⟨hlt,Pv (i+1),λσ' H' p'=>⟨n-(i+1),by lia,rfl,hlt,p'⟩,λx H' y=>?_⟩;obtain ⟨e,y⟩:=y;subst e y;exact hs i σ _ hlt p
 ·have e:i=n:=by lia
  subst e;exact .inl ⟨Nat.le_refl _,hd σ H p⟩
end L2
namespace L2
open PySem PySem.Spec PyProof.Rows
abbrev R2:=V->V->Hp->VK->Prop
def OpR (X:Cx)(f:Value->Value->Sem Value)(r:R2):Prop:=
 ∀ (pins:List (Addr×Obj)) (s:Shared) (σ:St) (H:Hp) (x y:V) (v u:Value) (Q:VK),Inv X pins σ H s->bP x v->bP y u->r x y H Q->
  wpAny (model X.prog X.w) X.A (f v u) (EP X pins σ Q) X.xe s
def UnR (X:Cx)(f:Value->Sem Value)(r:V->Hp->VK->Prop):Prop:=
 ∀ (pins:List (Addr×Obj)) (s:Shared) (σ:St) (H:Hp) (x:V) (v:Value) (Q:VK),Inv X pins σ H s->bP x v->r x H Q->
  wpAny (model X.prog X.w) X.A (f v) (EP X pins σ Q) X.xe s
def A9 (X:Cx)(f:Value)(r:List V->Hp->VK->Prop):Prop:=
 ∀ (pins:List (Addr×Obj)) (s:Shared) (σ:St) (H:Hp) (xs:List V) (us:List Value) (Q:VK),Inv X pins σ H s->bH xs us->r xs H Q->
  wpAny (model X.prog X.w) X.A (call f us) (EP X pins σ Q) X.xe s
def tOp (r:R2)(ta tb:TE):TE:=λσ H Q=>ta σ H λx H1=>tb σ H1 λy H2=>r x y H2 Q
def tUn (r:V->Hp->VK->Prop)(ta:TE):TE:=λσ H Q=>ta σ H λx H1=>r x H1 Q
inductive rI (C:Int->Int->Prop) (g:Int->Int->V) (x y:V) (H:Hp) (Q:VK):Prop
 | mk:∀ i j,x=.int i->y=.int j->C i j->Q (g i j) H->rI C g x y H Q
theorem W2 {C:Int->Int->Prop}{g:Int->Int->V}{x y:V}{H:Hp}{Q:VK}:rI C g x y H Q↔∃ i j,x=.int i/\y=.int j/\C i j/\Q (g i j) H:=⟨λ⟨a0,a1,a2,a3,a4,a5⟩=>⟨a0,a1,a2,a3,a4,a5⟩,λ⟨a0,a1,a2,a3,a4,a5⟩=>⟨a0,a1,a2,a3,a4,a5⟩⟩
inductive rI0 (g:Int->Int->V) (x y:V) (H:Hp) (Q:VK):Prop
 | mk:∀ i j,x=.int i->y=.int j->Q (g i j) H->rI0 g x y H Q
theorem RN {g:Int->Int->V}{x y:V}{H:Hp}{Q:VK}:rI0 g x y H Q↔∃ i j,x=.int i/\y=.int j/\Q (g i j) H:=⟨λ⟨a0,a1,a2,a3,a4⟩=>⟨a0,a1,a2,a3,a4⟩,λ⟨a0,a1,a2,a3,a4⟩=>⟨a0,a1,a2,a3,a4⟩⟩
inductive rU (g:Int->V) (x:V) (H:Hp) (Q:VK):Prop
 | mk:∀ i,x=.int i->Q (g i) H->rU g x H Q
theorem W5 {g:Int->V}{x:V}{H:Hp}{Q:VK}:rU g x H Q↔∃ i,x=.int i/\Q (g i) H:=⟨λ⟨a0,a1,a2⟩=>⟨a0,a1,a2⟩,λ⟨a0,a1,a2⟩=>⟨a0,a1,a2⟩⟩
section
variable {X:Cx}{a b c:Expr}{ta tb tc:TE}{pos:Pos}
theorem SE (ha:PE X a ta)(hb:PE X b tb){pins:List (Addr×Obj)}{s:Shared}{σ:St}{H:Hp}{R:V->V->Hp->Prop}(I:Inv X pins σ H s)
  (h:ta σ H λx H1=>tb σ H1 λy H2=>R x y H2) {Q:Value->Shared->Prop} {f:Value->Value->Sem Value}
  (hf:∀ v u s2 x y H2,Inv X pins σ H2 s2->bP x v->bP y u->R x y H2->wpAny (model X.prog X.w) X.A (f v u) Q X.xe s2):
  wpAny (model X.prog X.w) X.A (eval a X.env) (λv s₁=>wpAny (model X.prog X.w) X.A (eval b X.env) (λu s₂=>wpAny (model X.prog X.w) X.A (f v u) Q X.xe s₂) X.xe s₁) X.xe s:=by
 refine thn (ha pins s σ H _ I h) λv s1 ⟨x,H1,I1,r1,q1⟩=>?_;refine thn (hb pins s1 σ H1 _ I1 q1) λu s2 ⟨y,H2,I2,r2,q2⟩=>?_;exact hf v u s2 x y H2 I2 r1 r2 q2
theorem b7 {op:Operator}{r:R2}(ho:OpR X (binaryOp op) r)(ha:PE X a ta)(hb:PE X b tb):PE X (.BinOp a op b pos) (tOp r ta tb):=by
 intro pins s σ H Q I h;exact wpAny_BinOp (SE ha hb I h λv u s2 x y H2 I2 rx ry q=>ho pins s2 σ H2 x y v u Q I2 rx ry q)
theorem MO {op:UnaryOp}{r:V->Hp->VK->Prop}(ho:UnR X (unaryOp op) r)(ha:PE X a ta):PE X (.UnaryOp op a pos) (tUn r ta):=by
 intro pins s σ H Q I h;exact UnaryOp_ (thn (ha pins s σ H _ I h) λv s1 ⟨x,H1,I1,r1,q1⟩=>ho pins s1 σ H1 x v Q I1 r1 q1)
theorem opI {f:Value->Value->Sem Value}{C:Int->Int->Prop}{g:Int->Int->Int}
  (rule:∀ (i j:Int) (t u:Tok) (s:Shared) (Q:Value->Shared->Prop) (E:Value->Shared->Prop),C i j->Q (.int (g i j) s.toks) { s with toks:=s.toks+1 }->wpAny (model X.prog X.w) X.A (f (.int i t) (.int j u)) Q E s):
  OpR X f (rI C λi j=>.int (g i j)):=by
 intro pins s σ H x y v u Q I rx ry h;obtain ⟨i,j,rfl,rfl,hc,q⟩:=h;obtain ⟨t,rfl⟩:=rx;obtain ⟨t',rfl⟩:=ry;exact rule i j t t' s _ _ hc ⟨.int (g i j),H,I.tok _,⟨_,rfl⟩,q⟩
theorem MI {f:Value->Value->Sem Value}{g:Int->Int->Int}
  (rule:∀ (i j:Int) (t u:Tok) (s:Shared) (Q:Value->Shared->Prop) (E:Value->Shared->Prop),Q (.int (g i j) s.toks) { s with toks:=s.toks+1 }->wpAny (model X.prog X.w) X.A (f (.int i t) (.int j u)) Q E s):
  OpR X f (rI0 λi j=>.int (g i j)):=by
 intro pins s σ H x y v u Q I rx ry h;obtain ⟨i,j,rfl,rfl,q⟩:=h;obtain ⟨t,rfl⟩:=rx;obtain ⟨t',rfl⟩:=ry;exact rule i j t t' s _ _ ⟨.int (g i j),H,I.tok _,⟨_,rfl⟩,q⟩
theorem T8 {f:Value->Value->Sem Value}{g:Int->Int->Bool}
  (rule:∀ (i j:Int) (t u:Tok) (s:Shared) (Q:Value->Shared->Prop) (E:Value->Shared->Prop),Q (.bool (g i j)) s->wpAny (model X.prog X.w) X.A (f (.int i t) (.int j u)) Q E s):
  OpR X f (rI0 λi j=>.bl (g i j)):=by
 intro pins s σ H x y v u Q I rx ry h;obtain ⟨i,j,rfl,rfl,q⟩:=h;obtain ⟨t,rfl⟩:=rx;obtain ⟨t',rfl⟩:=ry;exact rule i j t t' s _ _ ⟨.bl (g i j),H,I,rfl,q⟩
def S4 (i j:Int):Prop:=(-(2^64)<i/\i<2^64)∨(-(2^64)<j/\j<2^64)
theorem S4.ok {i j:Int}(h:S4 i j):IntMulOk i j:=by
 rcases h with ⟨h1,h2⟩|⟨h1,h2⟩
 ·exact .of_left (intBits_le_64 h1 h2)
 ·exact .of_right (intBits_le_64 h1 h2)
theorem F0 (k:Nat):(0:Int)<=2^k:=by
 rw[two_pow_cast];exact Int.natCast_nonneg _
theorem dJ:OpR X (binaryOp .Add) (rI0 λi j=>.int (i+j)):=MI λ_ _ _ _ _ _ _ q=>add_int q
theorem gG:OpR X (binaryOp .Sub) (rI0 λi j=>.int (i-j)):=MI λ_ _ _ _ _ _ _ q=>sub_int q
theorem DZ:OpR X (binaryOp .Mult) (rI S4 λi j=>.int (i*j)):=opI λ_ _ _ _ _ _ _ hc q=>mul_int q hc.ok
theorem T9:OpR X (binaryOp .Mod) (rI (λ_ j=>0<j) λi j=>.int (i%j)):=opI λi j _ _ _ _ _ hc q=>by
 have h1:(0:Int)<j:=hc;exact mod_int' (by lia) (by rw[Int.fmod_eq_emod_of_nonneg i (by lia)];exact q)
theorem TB:OpR X (binaryOp .RShift) (rI (λ_ j=>0<=j) λi j=>.int (i / 2^j.toNat)):=opI λi j _ _ _ _ _ hc q=>
 rshift_int hc (by rw[Int.fdiv_eq_ediv_of_nonneg i (F0 _)];exact q)
theorem DY:OpR X (binaryOp .BitAnd) (rI0 λi j=>.int (Builtin.bitAnd i j)):=MI λ_ _ _ _ _ _ _ q=>and_int q
theorem MJ:OpR X (binaryOp .BitOr) (rI0 λi j=>.int (Builtin.bitOr i j)):=MI λ_ _ _ _ _ _ _ q=>or_int q
theorem uM:OpR X (binaryOp .BitXor) (rI0 λi j=>.int (Builtin.bitXor i j)):=MI λ_ _ _ _ _ _ _ q=>xor_int q
theorem unI {f:Value->Sem Value}{g:Int->Int}
  (rule:∀ (i:Int) (t:Tok) (s:Shared) (Q:Value->Shared->Prop) (E:Value->Shared->Prop),Q (.int (g i) s.toks) { s with toks:=s.toks+1 }->wpAny (model X.prog X.w) X.A (f (.int i t)) Q E s):
  UnR X f (rU λi=>.int (g i)):=by
 intro pins s σ H x v Q I rx h;obtain ⟨i,rfl,q⟩:=h;obtain ⟨t,rfl⟩:=rx;exact rule i t s _ _ ⟨.int (g i),H,I.tok _,⟨_,rfl⟩,q⟩
theorem F1:UnR X (unaryOp .USub) (rU λi=>.int (-i)):=unI λ_ _ _ _ _ q=>neg_int q
end
def JT:V->V->Bool
 | .non,.non=>true|.non,.int _=>true|.int _,.non=>true|.non,.bl _=>true|.bl _,.non=>true|.non,.str _=>true|.str _,.non=>true
 | .int _,.int _=>true|.bl _,.bl _=>true|.str _,.str _=>true|.byt _,.byt _=>true
 | .int _,.str _=>true|.str _,.int _=>true|.bl _,.str _=>true|.str _,.bl _=>true
 | _,_=>false
def rEq:R2:=λx y H Q=>JT x y=true/\Q (.bl (decide (x=y))) H
def rNe:R2:=λx y H Q=>JT x y=true/\Q (.bl (!decide (x=y))) H
theorem FN {i j:Int}:decide (V.int i=V.int j)=(i==j):=by
 rw[Bool.eq_iff_iff];simp
theorem KW {i j:Bool}:decide (V.bl i=V.bl j)=(i==j):=by
 rw[Bool.eq_iff_iff];simp
theorem FO {i j:Str}:decide (V.str i=V.str j)=(i==j):=by
 rw[Bool.eq_iff_iff];simp
theorem FM {i j:Array UInt8}:decide (V.byt i=V.byt j)=(i.toList==j.toList):=by
 rw[Bool.eq_iff_iff];cases i;cases j;simp
section
variable {X:Cx}{a b c:Expr}{ta tb tc:TE}{pos:Pos}
theorem bX {pins:List (Addr×Obj)}{σ:St}{H:Hp}{s:Shared}{Q:VK}{k k':Bool}(I:Inv X pins σ H s)(q:Q (.bl k) H)(e:k=k'):EP X pins σ Q (.bool k') s:=by
 subst e;exact ⟨.bl k,H,I,rfl,q⟩
theorem bV:OpR X (compareOp .Eq) rEq:=by
 intro pins s σ H x y v u Q I rx ry h;obtain ⟨hs,q⟩:=h
 cases x with
 | non=>
  cases rx
  cases y with
  | non=>cases ry;exact PySem.EqNone.eq_none_none (bX I q (by simp))
  | bl j=>cases ry;exact PySem.EqNone.eq_none_bool (bX I q (by simp))
  | int j=>obtain ⟨t',rfl⟩:=ry;exact PySem.EqNone.eq_none_int (bX I q (by simp))
  | str j=>obtain ⟨t',rfl⟩:=ry;exact PySem.EqNone.eq_none_str (bX I q (by simp))
  | _=>exact absurd (show false=true from hs) Bool.false_ne_true
 | bl i=>
  cases rx
  cases y with
  | non=>cases ry;exact PySem.EqNone.eq_bool_none (bX I q (by simp))
  | bl j=>cases ry;exact eq_bool (bX I q KW)
  | str j=>obtain ⟨t',rfl⟩:=ry;exact PySem.EqMixed.eq_bool_str (bX I q (by simp))
  | _=>exact absurd (show false=true from hs) Bool.false_ne_true
 | int i=>
  obtain ⟨t,rfl⟩:=rx
  cases y with
  | non=>cases ry;exact PySem.EqNone.eq_int_none (bX I q (by simp))
  | int j=>obtain ⟨t',rfl⟩:=ry;exact eq_int (bX I q FN)
  | str j=>obtain ⟨t',rfl⟩:=ry;exact PySem.EqMixed.eq_int_str (bX I q (by simp))
  | _=>exact absurd (show false=true from hs) Bool.false_ne_true
 | str i=>
  obtain ⟨t,rfl⟩:=rx
  cases y with
  | non=>cases ry;exact PySem.EqNone.eq_str_none (bX I q (by simp))
  | bl j=>cases ry;exact PySem.EqMixed.eq_str_bool (bX I q (by simp))
  | int j=>obtain ⟨t',rfl⟩:=ry;exact PySem.EqMixed.eq_str_int (bX I q (by simp))
  | str j=>obtain ⟨t',rfl⟩:=ry;exact eq_str (bX I q FO)
  | _=>exact absurd (show false=true from hs) Bool.false_ne_true
 | byt i=>
  obtain ⟨t,rfl⟩:=rx
  cases y with
  | byt j=>obtain ⟨t',rfl⟩:=ry;exact PySem.W.eq_bytes (bX I q FM)
  | _=>exact absurd (show false=true from hs) Bool.false_ne_true
 | _=>cases y<;>exact absurd (show false=true from hs) Bool.false_ne_true
theorem GO:OpR X (compareOp .NotEq) rNe:=by
 intro pins s σ H x y v u Q I rx ry h;obtain ⟨hs,q⟩:=h
 cases x with
 | non=>
  cases rx
  cases y with
  | non=>cases ry;exact PySem.EqNone.ne_none_none (bX I q (by simp))
  | bl j=>cases ry;exact PySem.EqNone.ne_none_bool (bX I q (by simp))
  | int j=>obtain ⟨t',rfl⟩:=ry;exact PySem.EqNone.ne_none_int (bX I q (by simp))
  | str j=>obtain ⟨t',rfl⟩:=ry;exact PySem.EqNone.ne_none_str (bX I q (by simp))
  | _=>exact absurd (show false=true from hs) Bool.false_ne_true
 | bl i=>
  cases rx
  cases y with
  | non=>cases ry;exact PySem.EqNone.ne_bool_none (bX I q (by simp))
  | bl j=>cases ry;exact ne_bool (bX I q (congrArg not KW))
  | str j=>obtain ⟨t',rfl⟩:=ry;exact PySem.EqMixed.ne_bool_str (bX I q (by simp))
  | _=>exact absurd (show false=true from hs) Bool.false_ne_true
 | int i=>
  obtain ⟨t,rfl⟩:=rx
  cases y with
  | non=>cases ry;exact PySem.EqNone.ne_int_none (bX I q (by simp))
  | int j=>obtain ⟨t',rfl⟩:=ry;exact ne_int (bX I q (congrArg not FN))
  | str j=>obtain ⟨t',rfl⟩:=ry;exact PySem.EqMixed.ne_int_str (bX I q (by simp))
  | _=>exact absurd (show false=true from hs) Bool.false_ne_true
 | str i=>
  obtain ⟨t,rfl⟩:=rx
  cases y with
  | non=>cases ry;exact PySem.EqNone.ne_str_none (bX I q (by simp))
  | bl j=>cases ry;exact PySem.EqMixed.ne_str_bool (bX I q (by simp))
  | int j=>obtain ⟨t',rfl⟩:=ry;exact PySem.EqMixed.ne_str_int (bX I q (by simp))
  | str j=>obtain ⟨t',rfl⟩:=ry;exact ne_str (bX I q (congrArg not FO))
  | _=>exact absurd (show false=true from hs) Bool.false_ne_true
 | byt i=>
  obtain ⟨t,rfl⟩:=rx
  cases y with
  | byt j=>obtain ⟨t',rfl⟩:=ry;exact PySem.W.ne_bytes (bX I q (congrArg not FM))
  | _=>exact absurd (show false=true from hs) Bool.false_ne_true
 | _=>cases y<;>exact absurd (show false=true from hs) Bool.false_ne_true
theorem eZ:OpR X (compareOp .Lt) (rI0 λi j=>.bl (decide (i<j))):=T8 λ_ _ _ _ _ _ _ q=>lt_int q
theorem pL:OpR X (compareOp .LtE) (rI0 λi j=>.bl (decide (i<=j))):=T8 λ_ _ _ _ _ _ _ q=>le_int q
theorem sH:OpR X (compareOp .Gt) (rI0 λi j=>.bl (decide (j<i))):=T8 λ_ _ _ _ _ _ _ q=>gt_int q
theorem aY (b:Expr){op:CmpOp}(h:op≠.In:=by decide)(h2:op≠.NotIn:=by decide):behindInMarks op b=false:=by
 have e1:(op==CmpOp.In)=false:=by cases op<;>first|rfl|exact absurd rfl h
 have e2:(op==CmpOp.NotIn)=false:=by cases op<;>first|rfl|exact absurd rfl h2
 cases b<;>simp[behindInMarks,e1,e2]
theorem gU {op:CmpOp}{r:R2}(ho:OpR X (compareOp op) r)(ha:PE X a ta)(hb:PE X b tb)(hm:behindInMarks op b=false):PE X (.Compare a [op] [b] pos) (tOp r ta tb):=by
 intro pins s σ H Q I h;exact wpAny_Compare1 (SE ha hb I h λv u s2 x y H2 I2 rx ry q=>ho pins s2 σ H2 x y v u Q I2 rx ry q) hm
def NV (t:TE):TT:=λσ H Q=>t σ H λx H'=>BlI x H' Q
theorem aT {op:CmpOp}{r:R2}(ho:OpR X (compareOp op) r)(ha:PE X a ta)(hb:PE X b tb)(hm:behindInMarks op b=false):PT X (.Compare a [op] [b] pos) (NV (tOp r ta tb)):=by
 intro pins s σ H Q I h
 refine wpAny_isTrue_Compare1 (thn (ha pins s σ H _ I h) λv s1 ⟨x,H1,I1,r1,q1⟩=>thn (hb pins s1 σ H1 _ I1 q1) λu s2 ⟨y,H2,I2,r2,q2⟩=>
  thn (ho pins s2 σ H2 x y v u _ I2 r1 r2 q2) λc s3 ⟨z,H3,I3,r3,k,e,q3⟩=>?_) hm
 subst e;cases r3;exact wpAny_truthy_bool ⟨H3,I3,q3⟩
def EU (r r':R2)(ta tb tc:TE):TE:=λσ H Q=>ta σ H λx H1=>tb σ H1 λy H2=>r x y H2 λz H3=>BlI z H3 λk H3=>
 (if k=true then tc σ H3 λw' H4=>r' y w' H4 Q else Q (.bl false) H3)
theorem iX {op op':CmpOp}{r r':R2}(ho:OpR X (compareOp op) r)(ho':OpR X (compareOp op') r')(ha:PE X a ta)(hb:PE X b tb)(hc:PE X c tc)
  (hm:lastMarks [op,op'] [b,c]=false:=by with_unfolding_all rfl):PE X (.Compare a [op,op'] [b,c] pos) (EU r r' ta tb tc):=by
 intro pins s σ H Q I h
 refine Compare_chain (thn (ha pins s σ H _ I h) λv s1 ⟨x,H1,I1,r1,q1⟩=>chain_link (thn (hb pins s1 σ H1 _ I1 q1) λu s2 ⟨y,H2,I2,r2,q2⟩=>
  thn (ho pins s2 σ H2 x y v u _ I2 r1 r2 q2) λd s3 ⟨z,H3,I3,r3,k,e,q3⟩=>?_)) hm
 subst e;cases r3;refine wpAny_truthy_bool ?_
 cases k with
 | false=>exact ite_ff ⟨.bl false,H3,I3,rfl,q3⟩
 | true=>exact ite_tt (chain_last (thn (hc pins s3 σ H3 _ I3 q3) λw' s4 ⟨z',H4,I4,r4,q4⟩=>ho' pins s4 σ H4 y z' u w' Q I4 r2 r4 q4))
theorem uD:(sizeLine:Nat)<2^63:=by rw[sizeLine_eq];decide
theorem OC {x:V}{us:List Value}(r:bH [x] us):∃ u,us=[u]/\bP x u:=by
 cases r with
 | cons r1 r2=>cases r2;exact ⟨_,rfl,r1⟩
theorem KP:A9 X (.builtin "abs") (λxs H Q=>∃ i,xs=[.int i]/\Q (.int (if i<0 then -i else i)) H):=by
 intro pins s σ H xs us Q I r h;obtain ⟨i,rfl,q⟩:=h;obtain ⟨u,rfl,t,rfl⟩:=OC r
 exact call_abs_int λu tk=>⟨.int (if i<0 then -i else i),H,I.tok _,⟨_,rfl⟩,q⟩
end
end L2
namespace L2
open PySem PySem.Spec PyProof.Rows
structure CU (h:Heap)(x dx C:Addr)(mA:Str->Option Value):Prop where
 obj:h.get? x=some (PySem.W.instObj C dx)
 ns:h.Ns1 dx mA
 ne:dx≠x
theorem wV {h:Heap}{dx:Addr}{mA:Str->Option Value}(n:h.Ns1 dx mA):∃ od,h.get? dx=some od/\∀ name,PySem.W.lookIn name od=some (mA name):=by
 obtain ⟨o,es,ep,ho,hd,hk,_,hm⟩:=n;refine ⟨o,ho,λname=>?_⟩;have e:=hm name;unfold nsFind findBy at e;rw[← Array.find?_toList] at e;unfold PySem.W.lookIn;rw[hd];dsimp only
 split
 ·rename_i y q;rw[q] at e;exact congrArg some e
 ·rename_i q;rw[q] at e
  have a:es.toList.any (·.refKey)=false:=by
   rw[List.any_eq_false];intro y hy;obtain ⟨z,t,hkey⟩:=hk y (Array.mem_toList_iff.mp hy);simp[DictEntry.refKey,hkey]
  have a':¬ es.toList.any (·.refKey)=true:=by rw[a];exact Bool.false_ne_true
  rw[if_neg a'];exact congrArg some e
theorem CU.look {h:Heap}{x dx C:Addr}{mA:Str->Option Value}(I:CU h x dx C mA):∃ od,PySem.W.InstAt h x (PySem.W.instObj C dx) C (some od)/\∀ name,PySem.W.lookIn name od=some (mA name):=
 let ⟨od,ho,hl⟩:=wV I.ns
 ⟨od,⟨I.obj,rfl,rfl,ho⟩,hl⟩
section
variable {prog:Program}{w:World}{A:Around}{E:Value->Shared->Prop}{s:Shared}{K:PySem.W.Frag}{x dx C f:Addr}{mA:Str->Option Value}{name:Str}{v:Value}
theorem OV {expr:Bool}{Q:Value->Shared->Prop}(X:K.In s.heap)(I:CU s.heap x dx C mA)(hg:PySem.W.plainGet K C name=true)(hh:PySem.W.hasDictIn K C=true)
  (ha:PySem.W.findIn K (.ref C) name=some none) (hv:mA name=some v) (hv':PySem.W.handedIn v=true) (h:Q v { s with toks:=s.toks+1 }):
  wpAny (model prog w) A (getAttr (.ref x) name expr) Q E s:=by
 obtain ⟨od,J,hl⟩:=I.look;exact PySem.W.get_value X J (PySem.W.plainGet_of hg).1 (PySem.W.findObj_own hh ha rfl (by rw[hl,hv])) hv' h
theorem LF {pl:Sem Bool}{Q:Value×List Value->Shared->Prop}(X:K.In s.heap)(I:CU s.heap x dx C mA)(hg:PySem.W.plainGet K C name=true)
  (hf:PySem.W.findIn K (.ref C) name=some (some (.ref f))) (ht:PySem.W.isFn K (.ref f)=true) (hv:mA name=none) (h:Q (.ref f,[.ref x]) s):
  wpAny (model prog w) A (getMethod (.ref x) name pl) Q E s:=by
 obtain ⟨od,J,hl⟩:=I.look;exact PySem.W.method_fn X J (PySem.W.plainGet_of hg).1 (PySem.W.plainGet_of hg).2 hf (beq_iff_eq.mp ht) (by show (PySem.W.lookIn name od).map (·.isSome)=some false;rw[hl,hv];rfl) h
theorem QR {ns:List Str}{Q:Unit->Shared->Prop}(X:K.In s.heap)(I:CU s.heap x dx C mA)
  (hs:PySem.W.findIn K (.ref C) "__setattr__" = some (some (.builtin "object.__setattr__"))) (hp:PySem.W.plainOver K C=true) (ht:PySem.W.takerIn K C name=some none) (hh:PySem.W.hasDictIn K C=true)
  (hw:PySem.Within mA ns) (hsz:ns.length<=sizeLine)
  (h:∀ h',CU h' x dx C (λy=>if y=name then some v else mA y)->Heap.SameBut dx s.heap h'->Q () { s with heap:=h',toks:=s.toks+2 }):
  wpAny (model prog w) A (setAttr (.ref x) name v) Q E s:=by
 obtain ⟨od,J,hl⟩:=I.look;refine PySem.W.set_plain X J hs (PySem.W.osa_open (s:={ s with toks:=s.toks+1 }) (r:=none) X J hp ht λb=>?_);obtain ⟨cd,hc,hd'⟩:=PySem.W.any_some hh;have hx:s.heap.get? x=some ⟨.ref C,some dx,.plain,#[]⟩:=I.obj;refine wpAny_bind (wpAny_pure (wpAny_bind (wpAny_bind (wpAny_loadPart hx (wpAny_bind (PySem.W.Looks.here (s:={ s with toks:=s.toks+1 }) (PySem.W.looks_clsIn X hc) ?_))))));rw[hd'];refine wpAny_pure (a:=some dx) (wpAny_bind (wpAny_pure (wpAny_bind ?_)));refine wpAny_nsSet1 (s:={ s with toks:=s.toks+1 }) I.ns λh' hn2 hs2=>?_;obtain ⟨oD,esD,epD,hoD,hdD,hcD⟩:=hn2.count (PySem.Within.cons name v hw);refine wpAny_bind (wpAny_lookBehind hoD (by rw[hdD];exact pastItsLine_dict (Nat.le_trans hcD (by rw[List.length_cons];lia))) ?_);exact wpAny_pure (h _ ⟨(hs2.2 _ (Ne.symm I.ne)).trans I.obj,hn2,I.ne⟩ hs2)
theorem LS {R:Result->Shared->Prop}{vs:List Value}{kw:List (Str×Value)}(X:K.In s.heap)(hm:PySem.W.makesIn K C=true)
  (hi:PySem.W.findIn K (.ref C) "__init__" = some (some (.ref f))) (hf:PySem.W.typeIn K (.ref f)=some (.type "function"))
  (h:codeAny (model prog w) (A.under (.builtin "type.__call__" ⟨.ref C::vs,kw⟩)) (.call (.ref f) ⟨.ref (s.heap.objs.size+1)::vs,kw⟩) (PySem.W.InitBack (s.heap.objs.size+1) R)
   { s with heap:=(s.heap.push PySem.W.emptyDict).push (PySem.W.instObj C s.heap.objs.size) }):
  codeAny (model prog w) A (.call (.ref C) ⟨vs,kw⟩) R s:=by
 obtain ⟨hh,g,d,t,os⟩:=s;exact PySem.W.make_core (PySem.W.makes_of X hm) (PySem.W.looks_findIn X hi) (λself=>PySem.W.bind_fn X self hf) (.inl rfl) h
end
def iY (f:Str)(v:V):List (Str×V)->List (Str×V)
 | []=>[(f,v)]
 | (g,x)::r=>if g=f then (g,v)::r else (g,x)::iY f v r
theorem l8 (f g:Str)(v:V):∀ fs:List (Str×V),(iY f v fs).lookup g=if g=f then some v else fs.lookup g
 | []=>by
  show List.lookup g [(f,v)]=_
  by_cases h:g=f
  ·have hb:(g==f)=true:=beq_iff_eq.mpr h;simp only[List.lookup,hb,if_pos h]
  ·have hb:(g==f)=false:=beq_eq_false_iff_ne.mpr h;simp only[List.lookup,hb,if_neg h]
 | (k,x)::r=>by
  have ih:=l8 f g v r;rw[show iY f v ((k,x)::r)=(if k=f then (k,v)::r else (k,x)::iY f v r) from rfl]
  by_cases hk:k=f
  ·rw[if_pos hk]
   by_cases h:g=k
   ·have hb:(g==k)=true:=beq_iff_eq.mpr h;simp only[List.lookup,hb,if_pos (h.trans hk)]
   ·have hb:(g==k)=false:=beq_eq_false_iff_ne.mpr h;simp only[List.lookup,hb,if_neg (λe:g=f=>h (e.trans hk.symm))]
  ·rw[if_neg hk]
   by_cases h:g=k
   ·have hb:(g==k)=true:=beq_iff_eq.mpr h;simp only[List.lookup,hb,if_neg (λe:g=f=>hk (h.symm.trans e))]
   ·have hb:(g==k)=false:=beq_eq_false_iff_ne.mpr h;simp only[List.lookup,hb];exact ih
theorem iU (f:Str)(v:V):∀ fs:List (Str×V),f∈(iY f v fs).map (·.1)/\∀ g,g∈fs.map (·.1)->g∈(iY f v fs).map (·.1)
 | []=>⟨by simp[iY],λg h=>by simp at h⟩
 | (k,x)::r=>by
  obtain ⟨i1,i2⟩:=iU f v r;rw[show iY f v ((k,x)::r)=(if k=f then (k,v)::r else (k,x)::iY f v r) from rfl]
  by_cases hk:k=f
  ·rw[if_pos hk];subst hk;exact ⟨by simp,λg h=>by simpa using h⟩
  ·rw[if_neg hk];refine ⟨?_,λg h=>?_⟩
   ·rw[List.map_cons];exact List.mem_cons_of_mem _ i1
   ·rw[List.map_cons] at h ⊢
    rcases List.mem_cons.mp h with e|e
    ·exact List.mem_cons.mpr (.inl e)
    ·exact List.mem_cons_of_mem _ (i2 g e)
theorem kZ (f:Str)(v:V):∀ fs:List (Str×V),(iY f v fs).length<=fs.length+1
 | []=>by simp[iY]
 | (k,x)::r=>by
  have ih:=kZ f v r;rw[show iY f v ((k,x)::r)=(if k=f then (k,v)::r else (k,x)::iY f v r) from rfl]
  by_cases hk:k=f
  ·rw[if_pos hk,List.length_cons,List.length_cons];lia
  ·rw[if_neg hk,List.length_cons,List.length_cons];lia
theorem gM.some_of {v:V}{o:Option Value}(r:gM (some v) o):∃ u,o=some u/\bP v u:=by
 cases o with
 | none=>exact (show False from r).elim
 | some u=>exact ⟨u,rfl,r⟩
theorem gM.none_of {o:Option Value}(r:gM none o):o=none:=by
 cases o with
 | none=>rfl
 | some u=>exact (show False from r).elim
theorem wN {v:V}{u:Value}(r:bP v u):PySem.W.handedIn u=true:=by
 cases v with
 | non=>cases (show u=Value.none from r);rfl
 | bl b=>cases (show u=Value.bool b from r);rfl
 | int i=>obtain ⟨t,e⟩:=(show ∃ t,u=Value.int i t from r);cases e;rfl
 | str x=>obtain ⟨t,e⟩:=(show ∃ t,u=Value.str x t from r);cases e;rfl
 | byt b=>obtain ⟨t,e⟩:=(show ∃ t,u=Value.bytes b t from r);cases e;rfl
 | flt b=>obtain ⟨t,e⟩:=(show ∃ t,u=Value.float b t from r);cases e;rfl
 | ref a=>cases (show u=Value.ref a from r);rfl
 | ty n=>cases (show u=Value.type n from r);rfl
section
variable {P:Program}{w:World}{H H':Hp}{h h':Heap}{a C dx:Addr}{fs fs':List (Str×V)}
theorem yC (hok:HOk P w H h)(e:H a=some (.ins C dx fs)):∃ mA,CU h a dx C mA/\(∀ f,gM (fs.lookup f) (mA f))/\PySem.Within mA (fs.map (·.1))/\fs.length<=1000/\H dx=some (.own a):=by
 obtain ⟨d,z,ne,ob,mA,n,r,q⟩:=(show c9 P w H h a (.ins C dx fs) from hok a _ e)
 exact ⟨mA,⟨ob,n,ne⟩,r,q,z,d⟩
end
structure Cls (K:PySem.W.Frag)(C:Addr):Prop where
 pg:PySem.W.plainGet K C Str.empty=true
 hd:PySem.W.hasDictIn K C=true
 po:PySem.W.plainOver K C=true
 sa:PySem.W.findIn K (.ref C) "__setattr__" = some (some (.builtin "object.__setattr__"))
theorem Cls.get {K:PySem.W.Frag}{C:Addr}(c:Cls K C)(f:Str):PySem.W.plainGet K C f=true:=c.pg
def aZ (K:PySem.W.Frag)(C:Addr)(f:Str):Prop:=PySem.W.findIn K (.ref C) f=some none
theorem aZ.taker {K:PySem.W.Frag}{C:Addr}{f:Str}(n:aZ K C f):PySem.W.takerIn K C f=some none:=by
 unfold PySem.W.takerIn;rw[show PySem.W.findIn K (.ref C) f=some none from n];rfl
structure KD (K:PySem.W.Frag)(C:Addr)(m:Str)(f:Addr):Prop where
 at_:PySem.W.findIn K (.ref C) m=some (some (.ref f))
 fn:PySem.W.isFn K (.ref f)=true
 kp:PySem.W.keepIn K (.ref f)=true
section
variable {X:Cx}{pins:List (Addr×Obj)}{σ:St}{H:Hp}{s:Shared}{a C dx:Addr}{fs:List (Str×V)}{f:Str}{v:V}{A:Around}{E:Value->Shared->Prop}
theorem u4 {b:Bool}{Q:Value->Shared->Prop}(I:Inv X pins σ H s)(e:H a=some (.ins C dx fs))(c:Cls X.K C)(n:aZ X.K C f)(l:fs.lookup f=some v)
  (h:∀ u s',Inv X pins σ H s'->bP v u->Q u s'):wpAny (model X.prog X.w) A (getAttr (.ref a) f b) Q E s:=by
 obtain ⟨mA,O,r,_,_,_⟩:=yC I.hok e;obtain ⟨u,hu,ru⟩:=gM.some_of (v:=v) (o:=mA f) (by rw[← l];exact r f);exact OV I.kIn O (c.get f) c.hd n hu (wN ru) (h u _ (I.tok _) ru)
theorem mX {m:Str}{g:Addr}{pl:Sem Bool}{Q:Value×List Value->Shared->Prop}(I:Inv X pins σ H s)(e:H a=some (.ins C dx fs))(c:Cls X.K C)(k:KD X.K C m g)(l:fs.lookup m=none)
  (h:Q (.ref g,[.ref a]) s):wpAny (model X.prog X.w) A (getMethod (.ref a) m pl) Q E s:=by
 obtain ⟨mA,O,r,_,_,_⟩:=yC I.hok e;have hn:mA m=none:=gM.none_of (by rw[← l];exact r m);exact LF I.kIn O (c.get m) k.at_ k.fn hn h
theorem v6 {y:V}{u:Value}{Q:Unit->Shared->Prop}(I:Inv X pins σ H s)(e:H a=some (.ins C dx fs))(c:Cls X.K C)(n:aZ X.K C f)(hl:fs.length<1000)(ry:bP y u)
  (h:∀ s',Inv X pins σ (upd H a (.ins C dx (iY f y fs))) s'->Q () s'):wpAny (model X.prog X.w) A (setAttr (.ref a) f u) Q E s:=by
 obtain ⟨mA,O,r,wi,_,ho⟩:=yC I.hok e;have hz:(fs.map (·.1)).length<=sizeLine:=by rw[List.length_map,sizeLine_eq];lia
 refine QR I.kIn O c.sa c.po n.taker c.hd wi hz λh' O' sb=>h _ ?_;have hd:∃ o,h'.get? dx=some o:=let ⟨o,_,_,e',_⟩:=O'.ns;⟨o,e'⟩;refine I.write (x:=a) (e:=dx) (by rw[e];exact True.intro) (.inr ho) (λb q hb z=>(sb.2 b hb).trans z) hd ?_;refine ⟨by rw[aB O.ne];exact ho,?_,O.ne,O'.obj,_,O'.ns,λg=>?_,λg hg=>?_⟩
 ·have:=kZ f y fs;lia
 ·show gM ((iY f y fs).lookup g) (if g=f then some u else mA g);rw[l8]
  by_cases q:g=f
  ·rw[if_pos q,if_pos q];exact ry
  ·rw[if_neg q,if_neg q];exact r g
 ·by_cases q:g=f
  ·rw[q];exact (iU f y fs).1
  ·refine (iU f y fs).2 g (wi g λz=>hg ?_);show (if g=f then some u else mA g)=none;rw[if_neg q];exact z
theorem Inv.made (I:Inv X pins σ H s):Inv X pins σ (upd (upd H s.heap.objs.size (.own (s.heap.objs.size+1))) (s.heap.objs.size+1) (.ins C s.heap.objs.size []))
  { s with heap:=(s.heap.push PySem.W.emptyDict).push (PySem.W.instObj C s.heap.objs.size) }:=by
 have e1:(s.heap.push PySem.W.emptyDict).get? s.heap.objs.size=some PySem.W.emptyDict:=Heap.get?_push_size s.heap rfl
 have e2:((s.heap.push PySem.W.emptyDict).push (PySem.W.instObj C s.heap.objs.size)).get? (s.heap.objs.size+1)=some (PySem.W.instObj C s.heap.objs.size):=by
  have:=Heap.get?_push_size (s.heap.push PySem.W.emptyDict) (o:=PySem.W.instObj C s.heap.objs.size) rfl
  rwa [Heap.size_push] at this
 have e3:(s.heap.push PySem.W.emptyDict).Ns s.heap.objs.size (λ_=>none):=⟨PySem.W.emptyDict,#[],_,e1,rfl,(λe he=>absurd he (by simp)),λ_=>rfl⟩
 have I1:=I.laid (a:=s.heap.objs.size) (o:=.own (s.heap.objs.size+1)) (h':=s.heap.push PySem.W.emptyDict) (t':=s.toks) (λb u q=>Heap.get?_push_of_some _ q) (Nat.le_refl _) ⟨_,e1⟩;refine I1.laid (a:=s.heap.objs.size+1) (o:=.ins C s.heap.objs.size []) (t':=s.toks) (λb u q=>Heap.get?_push_of_some _ q) (Nat.le_of_eq (Heap.size_push _ _)) ?_;have ne:s.heap.objs.size≠s.heap.objs.size+1:=Nat.ne_of_lt (Nat.lt_succ_self _);refine ⟨by rw[aB ne,aA],Nat.zero_le _,ne,e2,λ_=>none,(Heap.Ns1.of_empty e3).at λo q=>Heap.get?_push_of_some _ q,λ_=>True.intro,λy hy=>absurd rfl hy⟩
theorem FB {prog:Program}{w:World}{env:Env}{e:Expr}{f:Str}{pos:Pos}{s:Shared}{Q:Value->Shared->Prop}(hb:attributeBase e f env (eval e env)=eval e env)
  (h:wpAny (model prog w) A (eval e env) (λo s₁=>wpAny (model prog w) A (getAttr o f true) Q E s₁) E s):wpAny (model prog w) A (eval (.Attribute e f pos) env) Q E s:=
 Attribute_any_ h (by rw[arm_eval_Attribute,hb])
end
inductive UV (K:PySem.W.Frag) (f:Str) (x:V) (H:Hp) (Q:VK):Prop
 | mk:∀ a C dx fs v,x=.ref a->H a=some (.ins C dx fs)->Cls K C->aZ K C f->fs.lookup f=some v->Q v H->UV K f x H Q
def WL (K:PySem.W.Frag)(ta:TE)(f:Str):TE:=λσ H Q=>ta σ H λx H1=>UV K f x H1 Q
inductive V6 (K:PySem.W.Frag) (f:Str) (x y:V) (H:Hp) (Q:Hp->Prop):Prop
 | mk:∀ a C dx fs,x=.ref a->H a=some (.ins C dx fs)->Cls K C->aZ K C f->fs.length<1000->Q (upd H a (.ins C dx (iY f y fs)))->V6 K f x y H Q
def sFld (K:PySem.W.Frag)(ta tv:TE)(f:Str):TS:=λD σ H=>tv σ H λy H1=>ta σ H1 λx H2=>V6 K f x y H2 (D.nx σ)
def UY (X:Cx)(op:Operator)(rd:V->V->Hp->VK->Prop):Prop:=
 ∀ (pins:List (Addr×Obj)) (s:Shared) (σ:St) (H:Hp) (x y:V) (u v:Value) (Q:VK),Inv X pins σ H s->bP x u->bP y v->rd x y H Q->wpAny (model X.prog X.w) X.A (inplaceOp op u v) (EP X pins σ Q) X.xe s
def QA (K:PySem.W.Frag)(ta tv:TE)(rd:V->V->Hp->VK->Prop)(f:Str):TS:=λD σ H=>ta σ H λx H1=>∃ a C dx fs v,x=.ref a/\H1 a=some (.ins C dx fs)/\Cls K C/\aZ K C f/\fs.lookup f=some v/\
 tv σ H1 λy H2=>rd v y H2 λz H3=>∃ dx' fs',H3 a=some (.ins C dx' fs')/\fs'.length<1000/\D.nx σ (upd H3 a (.ins C dx' (iY f z fs')))
section
variable {X:Cx}{o e value:Expr}{f:Str}{pos pos' tpos:Pos}{ta tv:TE}
theorem aJ (he:PE X e ta)(hb:attributeBase e f X.env (eval e X.env)=eval e X.env):PE X (.Attribute e f pos) (WL X.K ta f):=by
 intro pins s σ H Q I h;refine FB hb (thn (he pins s σ H _ I h) λu s1 ⟨x,H1,I1,rx,a,C,dx,fs,v,ex,ea,c,n,l,q⟩=>?_);subst ex;obtain rfl:u=Value.ref a:=rx
 exact u4 I1 ea c n l λu' s2 I2 ru=>⟨v,H1,I2,ru,q⟩
theorem bY (ha:PE X o ta)(hv:PE X value tv)(hs:swapsWith value (some (.Attribute o f pos')) pos.line X.env=pure false):PS X (.Assign [.Attribute o f pos'] value pos) (sFld X.K ta tv f):=by
 intro pins s σ H D I h;refine plainObj_wpAny_Assign_Attribute (thn (hv pins s σ H _ I h) λu s1 ⟨y,H1,I1,ry,q⟩=>thn (ha pins s1 σ H1 _ I1 q) λov s2 ⟨x,H2,I2,rx,a,C,dx,fs,ex,ea,c,n,l,q2⟩=>?_) hs;subst ex;obtain rfl:ov=Value.ref a:=rx
 exact v6 I2 ea c n l ry λs3 I3=>⟨σ,_,I3,q2⟩
theorem JI {op:Operator}{rd:V->V->Hp->VK->Prop}(ha:PE X o ta)(hv:PE X value tv)(hop:UY X op rd):PS X (.AugAssign (.Attribute o f tpos) op value pos) (QA X.K ta tv rd f):=by
 intro pins s σ H D I h;refine wpAny_AugAssign_AttributeAny (thn (ha pins s σ H _ I h) λov s1 ⟨x,H1,I1,rx,a,C,dx,fs,v,ex,ea,c,n,l,q⟩=>?_);subst ex;obtain rfl:ov=Value.ref a:=rx;refine u4 I1 ea c n l λu s2 I2 ru=>thn (hv pins s2 σ H1 _ I2 q) λw3 s3 ⟨y,H2,I3,ry,q3⟩=>thn (hop pins s3 σ H2 v y u w3 _ I3 ru ry q3) λw4 s4 ⟨z,H3,I4,rz,dx',fs',ea',l',q4⟩=>?_
 exact v6 I4 ea' c n l' rz λs5 I5=>⟨σ,_,I5,q4⟩
inductive VZ (x y:V) (H:Hp) (Q:VK):Prop
 | mk:∀ i j,x=.int i->y=.int j->Q (.int (i+j)) H->VZ x y H Q
theorem SL:UY X .Add VZ:=by
 rintro pins s σ H x y u v Q I rx ry ⟨i,j,rfl,rfl,q⟩
 obtain ⟨t,rfl⟩:=(show ∃ t,u=Value.int i t from rx)
 obtain ⟨t',rfl⟩:=(show ∃ t',v=Value.int j t' from ry)
 exact PyProof.Rows.iadd_int ⟨.int (i+j),H,I.tok _,⟨_,rfl⟩,q⟩
theorem RH {pl:Sem Bool}{m:Str}{apos:Pos}{args:List Expr}{pins:List (Addr×Obj)}{s:Shared}{σ:St}{H:Hp}{Q:Value->Shared->Prop}{te:TE}(he:PE X e te)(I:Inv X pins σ H s)
  (h:te σ H λx H1=>∃ a C dx fs g,x=.ref a/\H1 a=some (.ins C dx fs)/\Cls X.K C/\KD X.K C m g/\fs.lookup m=none/\
   ∀ s1,Inv X pins σ H1 s1->wpAny (model X.prog X.w) X.A (callWith pos (.ref g) [.ref a] (backTo pos (starEach args X.env)) (backToKw pos (keywordEach [] X.env))) Q X.xe s1)
  (ht:eval (.Call (.Attribute e m apos) args [] pos) X.env=(do
   let ov ← eval e X.env
   standAt apos.atName
   let (f,first) ← holding [ov] (getMethod ov m pl)
   callWith pos f first (backTo pos (starEach args X.env)) (backToKw pos (keywordEach [] X.env)))):
  wpAny (model X.prog X.w) X.A (eval (.Call (.Attribute e m apos) args [] pos) X.env) Q X.xe s:=by
 refine PySem.W.methodCall_KW (pl:=pl) (thn (he pins s σ H _ I h) λu s1 ⟨x,H1,I1,rx,a,C,dx,fs,g,ex,ea,c,k,l,q⟩=>?_) ht;subst ex;obtain rfl:u=Value.ref a:=rx;exact mX I1 ea c k l (q s1 I1)
end
end L2
namespace L2
open PySem PySem.Spec PyProof.Rows
structure cI (k:Nat)(A:Around):Prop where
 hd:A.handled=none
 dp:A.depth+3*k+5<recursionLimit
 un:A.units+16*k+200<cLine
theorem cI.mono {j k:Nat}{A:Around}(r:cI k A)(h:j<=k):cI j A:=⟨r.hd,by have:=r.dp;lia,by have:=r.un;lia⟩
theorem cI.deeper {k:Nat}{A:Around}(r:cI (k+1) A)(env:Env):cI k (A.deeper env):=
 ⟨r.hd,by have:=r.dp;show A.depth+1+3*k+5<_;lia,by have:=r.un;show A.units+3+16*k+200<_;lia⟩
theorem DO {A:Around}{C:Addr}{us:List Value}{kw:List (Str×Value)}:(A.under (.builtin "type.__call__" ⟨.ref C::us,kw⟩)).depth=A.depth+1:=by
 first|rfl|simp[Around.under,Code.weight,Code.isCreation,Code.isGuard,Code.isCaller,Code.frames,Code.isFrame,guardIds]
theorem DP {A:Around}{C:Addr}{us:List Value}{kw:List (Str×Value)}:(A.under (.builtin "type.__call__" ⟨.ref C::us,kw⟩)).units=A.units+1:=by
 first|rfl|simp[Around.under,Code.cUnits,Code.frames,Code.isFrame]
theorem cI.make {k:Nat}{A:Around}(r:cI (k+1) A)(C:Addr)(us:List Value)(kw:List (Str×Value)):cI k (A.under (.builtin "type.__call__" ⟨.ref C::us,kw⟩)):=
 ⟨r.hd,by have:=r.dp;rw[DO];lia,by have:=r.un;rw[DP];lia⟩
theorem cI.depth {k:Nat}{A:Around}(r:cI k A):A.depth<recursionLimit:=by have:=r.dp;lia
theorem cI.units {k:Nat}{A:Around}(r:cI k A):A.units+64<cLine:=by have:=r.un;lia
def NU:TA:=λ_ H Q=>Q [] H
def NR (ta:TE)(tr:TA):TA:=λσ H Q=>ta σ H λx H1=>tr σ H1 λxs H2=>Q (x::xs) H2
section
variable {X:Cx}{e:Expr}{es:List Expr}{te:TE}{t:TA}{pos:Pos}
theorem aC:PA X [] NU:=λ_ _ _ _ H Q I h=>Calls.spliced_nil ⟨[],H,I,.nil,h⟩
theorem a9 (ha:PE X e te)(hr:PA X es t)(hs:starEach (e::es) X.env=(false,eval e X.env)::starEach es X.env:=by rfl):PA X (e::es) (NR te t):=by
 intro pos pins s σ H Q I h;rw[hs];show wpAny _ _ (spliced ((false,eval e X.env)::backTo pos (starEach es X.env))) _ _ s;refine Calls.spliced_cons (thn (ha pins s σ H _ I h) λu s1 ⟨x,H1,I1,r1,q1⟩=>?_)
 exact thn (hr pos pins s1 σ H1 _ I1 q1) λus s2 ⟨xs,H2,I2,r2,q2⟩=>⟨x::xs,H2,I2,.cons r1 r2,q2⟩
def UM (t:TA):TE:=λσ H Q=>t σ H λxs H1=>xs.length<=sizeLine/\∀ p,H1 p=none->Q (.ref p) (upd H1 p (.tup xs))
def UH (t:TA):TE:=λσ H Q=>t σ H λxs H1=>xs.length<=sizeLine/\∀ p,H1 p=none->Q (.ref p) (upd H1 p (.lst xs))
theorem cA {x1}(h:PA X es t):PE X (.Tuple es x1 pos) (UM t):=by
 intro pins s σ H Q I hq;refine wpAny_Tuple_spliced (thn (h pos pins s σ H _ I hq) λus s1 ⟨xs,H1,I1,r,z,q⟩=>⟨by rw[← r.length];exact z,?_⟩);have hf:H1 s1.heap.objs.size=none:=I1.hok.fresh (Nat.le_refl _);refine ⟨.ref s1.heap.objs.size,upd H1 s1.heap.objs.size (.tup xs),I1.laid (t':=s1.toks) (λb u e=>Heap.get?_push_of_some _ e) (Nat.le_refl _) ?_,rfl,q _ hf⟩;exact ⟨z,us,r,⟨_,Heap.get?_push_size _ rfl,rfl,_,rfl⟩⟩
theorem bD (h:PA X es t):PE X (.List es pos) (UH t):=by
 intro pins s σ H Q I hq;refine wpAny_List_spliced (thn (h pos pins s σ H _ I hq) λus s1 ⟨xs,H1,I1,r,z,q⟩=>⟨by rw[← r.length];exact z,?_⟩);have hf:H1 s1.heap.objs.size=none:=I1.hok.fresh (Nat.le_refl _);refine ⟨.ref s1.heap.objs.size,upd H1 s1.heap.objs.size (.lst xs),I1.laid (t':=s1.toks) (λb u e=>Heap.get?_push_of_some _ e) (Nat.le_refl _) ?_,rfl,q _ hf⟩;exact ⟨z,us,0,r,Heap.get?_push_size _ rfl⟩
end
abbrev Sp:=List V->Hp->VK->XK->Prop
abbrev CXT:=List Env->Hp->Shared->XK->Value->Shared->Prop
structure xO (P:Program)(w:World)(K:PySem.W.Frag)(mg:Str->Option Value)(base:Heap)(A:Around)(outer:List Env)(s:Shared)(H:Hp):Prop where
 frames:A.frames=some outer
 mod:Mod K mg base
 bs:∀ b o,base.get? b=some o->s.heap.get? b=some o/\H b=none
 bsz:base.objs.size<=s.heap.objs.size
 funs:s.heap.FunFrames base outer
 frf:∀ b∈frs outer,H b=none
 hok:HOk P w H s.heap
 bare:AllBare s.gens
def CE (outer:List Env)(P:Program)(w:World)(H:Hp)(s:Shared)(Q:VK)(u:Value)(s':Shared):Prop:=
 ∃ v H',s'.os=s.os/\AllBare s'.gens/\Un (frs outer) [] H H' s.heap s'.heap/\HOk P w H' s'.heap/\bP v u/\Q v H'
def CR (CX:CXT)(outer:List Env)(P:Program)(w:World)(H:Hp)(s:Shared)(Q:VK)(E:XK)(r:Result)(s':Shared):Prop:=
 match r with
 | .ok (.ret u)=>CE outer P w H s Q u s'
 | .ok _=>False
 | .error e=>CX outer H s E e s'
structure aN (P:Program)(w:World)(K:PySem.W.Frag)(mg:Str->Option Value)(base:Heap)(CX:CXT)(k:Nat)(f:Addr)(fd:FuncData)(ps:List Str)(sp:Sp):Prop where
 len:∀ vs H Q E,sp vs H Q E->vs.length=ps.length
 run:∀ (A:Around) (outer:List Env) (s:Shared) (H:Hp) (args:Args) (us:List Value) (vs:List V) (Q:VK) (E:XK),cI k A->xO P w K mg base A outer s H->BindsTo s fd args (ps.zip us)->bH vs us->sp vs H Q E->
  codeAny (model P w) A (.call (.ref f) args) (CR CX outer P w H s Q E) s
theorem xO.make {P:Program}{w:World}{K:PySem.W.Frag}{mg:Str->Option Value}{base:Heap}{A:Around}{outer:List Env}{s:Shared}{H:Hp}(e:xO P w K mg base A outer s H)(C:Addr)(us:List Value)(kw:List (Str×Value)):
  xO P w K mg base (A.under (.builtin "type.__call__" ⟨.ref C::us,kw⟩)) outer s H:=⟨by first|exact e.frames|(simpa [Around.under,Code.envs,Code.isFrame,pushEnvs] using e.frames),e.mod,e.bs,e.bsz,e.funs,e.frf,e.hok,e.bare⟩
section
variable {X:Cx}{pins:List (Addr×Obj)}{σ:St}{H:Hp}{s s':Shared}
theorem Inv.env0 (I:Inv X pins σ H s):xO X.prog X.w X.K X.mg X.base X.A X.stack s H:=
 ⟨I.ok.frames,I.ok.mod,I.bs,Nat.le_trans I.ok.bsz I.sz,I.stack,I.stkFree,I.hok,I.bare⟩
theorem Inv.after {Q:VK}{u:Value}(I:Inv X pins σ H s)(h:CE X.stack X.prog X.w H s Q u s'):EP X pins σ Q u s':=by
 obtain ⟨v,H',os,bare,un,hok,r,q⟩:=h;obtain ⟨hh,g,d,t,os'⟩:=s';obtain rfl:os'=s.os:=os;exact ⟨v,H',I.call (h':=hh) (g':=g) (d':=d) (t':=t) (ch:=[]) un hok bare (λb z=>absurd z (by simp)),r,q⟩
end
def HV (sp:Sp)(dvs:List V)(E:XK)(t:TA):TE:=λσ H Q=>t σ H λvs H1=>sp (vs++dvs) H1 Q E
inductive S7 (C:Addr) (m:Str) (x:V) (H:Hp) (R:Prop):Prop
 | mk:∀ a dx fs,x=.ref a->H a=some (.ins C dx fs)->fs.lookup m=none->R->S7 C m x H R
theorem KE {C:Addr}{m:Str}{x:V}{H:Hp}{R:Prop}:S7 C m x H R↔∃ a dx fs,x=.ref a/\H a=some (.ins C dx fs)/\fs.lookup m=none/\R:=⟨λ⟨a,b,c,d,e,f,g⟩=>⟨a,b,c,d,e,f,g⟩,λ⟨a,b,c,d,e,f,g⟩=>⟨a,b,c,d,e,f,g⟩⟩
def HX (C:Addr)(m:Str)(sp:Sp)(dvs:List V)(E:XK)(ta:TE)(t:TA):TE:=λσ H Q=>ta σ H λx H1=>S7 C m x H1
 (t σ H1 λvs H2=>sp (x::(vs++dvs)) H2 Q E)
def HW (C:Addr)(sp:Sp)(dvs:List V)(E:XK)(t:TA):TE:=λσ H Q=>t σ H λvs H1=>∀ x dx,H1 x=none->H1 dx=none->dx≠x->
 sp (.ref x::(vs++dvs)) (upd (upd H1 dx (.own x)) x (.ins C dx [])) (λv H2=>v=.non/\Q (.ref x) H2) E
def cZ (K:PySem.W.Frag)(fd:FuncData)(ps:List Str)(ds:List Value):Prop:=
 ∀ (s:Shared) (us:List Value),K.In s.heap->(us++ds).length=ps.length->BindsTo s fd ⟨us,[]⟩ (ps.zip (us++ds))
theorem cZ.all {K:PySem.W.Frag}{fd:FuncData}{ps:List Str}(h:∀ us:List Value,us.length=ps.length->bindArgs fd ⟨us,[]⟩=pure (ps.zip us)):cZ K fd ps []:=λs us _ hl=>by
 rw[List.append_nil] at hl ⊢;exact .of_eq (h us hl)
def iF (CX:CXT)(X:Cx)(E:XK):Prop:=∀ (pins:List (Addr×Obj)) (σ:St) (H:Hp) (s:Shared) (e:Value) (s':Shared),Inv X pins σ H s->CX X.stack H s E e s'->X.xe e s'
section
variable {X:Cx}{CX:CXT}{k:Nat}{f C:Addr}{fd:FuncData}{ps:List Str}{sp:Sp}{dvs:List V}{ds:List Value}{E:XK}{x m:Str}{p pos apos:Pos}{e o:Expr}{es:List Expr}{ta:TE}{t:TA}
theorem yY {pins:List (Addr×Obj)}{σ:St}{H:Hp}{s:Shared}{Q:VK}{us:List Value}{vs:List V}(F:aN X.prog X.w X.K X.mg X.base CX k f fd ps sp)(hr:cI k X.A)(hb:cZ X.K fd ps ds)(hd:bH dvs ds)(hx:iF CX X E)
  (I:Inv X pins σ H s) (r:bH vs us) (h:sp (vs++dvs) H Q E):wpAny (model X.prog X.w) X.A (call (.ref f) us) (EP X pins σ Q) X.xe s:=by
 have r2:bH (vs++dvs) (us++ds):=r.append hd;have hl:(us++ds).length=ps.length:=by rw[← r2.length];exact F.len _ _ _ _ h
 refine wpAny_call (codeAny_mono (F.run X.A X.stack s H ⟨us,[]⟩ (us++ds) (vs++dvs) Q E hr I.env0 (hb s us I.kIn hl) r2 h) λr s' hq=>?_)
 cases r with
 | error e=>exact hx pins σ H s e s' I hq
 | ok fl=>
  cases fl with
  | ret u=>exact I.after hq
  | next=>exact False.elim hq
  | brk=>exact False.elim hq
  | cont=>exact False.elim hq
theorem aS (F:aN X.prog X.w X.K X.mg X.base CX k f fd ps sp)(hr:cI k X.A)(hg:Gl X x)(hm:X.mg x=some (.ref f))(hk:PySem.W.keepIn X.K (.ref f)=true)(hb:cZ X.K fd ps ds)(hd:bH dvs ds)(hx:iF CX X E)
  (ha:PA X (e::es) t) (hdb:(x==("__debug__" : Str))=false:=by decide) (he:starEach (e::es) X.env=(false,eval e X.env)::starEach es X.env:=by rfl) (hpl:(backTo pos (starEach es X.env)).any (·.1)=false:=by rfl):
  PE X (.Call (.Name x p) (e::es) [] pos) (HV sp dvs E t):=by
 intro pins s σ H Q I h;refine wpAny_Call_Name_kw (jQ I hg hm ?_ hdb);refine PySem.W.callWith_K (h₀:=X.base) I.ok.mod.kin hk (thn (ha pos pins s σ H _ I h) λus s1 ⟨vs,H1,I1,r,q⟩=>⟨I1.kIn,?_⟩) he hpl;exact yY F hr hb hd hx I1 r q
theorem bA {pl:Sem Bool}(he:PE X o ta)(c:Cls X.K C)(hm:KD X.K C m f)(F:aN X.prog X.w X.K X.mg X.base CX k f fd ps sp)(hr:cI k X.A)(hb:cZ X.K fd ps ds)(hd:bH dvs ds)(hx:iF CX X E)(ha:PA X (e::es) t)
  (hst:starEach (e::es) X.env=(false,eval e X.env)::starEach es X.env:=by rfl) (hpl:(backTo pos (starEach es X.env)).any (·.1)=false:=by rfl)
  (ht:eval (.Call (.Attribute o m apos) (e::es) [] pos) X.env=(do
   let ov ← eval o X.env
   standAt apos.atName
   let (f,first) ← holding [ov] (getMethod ov m pl)
   callWith pos f first (backTo pos (starEach (e::es) X.env)) (backToKw pos (keywordEach [] X.env))):=by rfl):
  PE X (.Call (.Attribute o m apos) (e::es) [] pos) (HX C m sp dvs E ta t):=by
 intro pins s σ H Q I h;refine PySem.W.methodCall_KW (pl:=pl) (thn (he pins s σ H _ I h) λu s1 ⟨x,H1,I1,rx,a,dx,fs,ex,ea,l,q⟩=>?_) ht;subst ex;obtain rfl:u=Value.ref a:=rx;refine mX I1 ea c hm l ?_;refine PySem.W.callWith_K (first:=[.ref a]) (h₀:=X.base) I.ok.mod.kin hm.kp (thn (ha pos pins s1 σ H1 _ I1 q) λus s2 ⟨vs,H2,I2,r,q2⟩=>⟨I2.kIn,?_⟩) hst hpl;exact yY (us:=.ref a::us) (vs:=.ref a::vs) F hr hb hd hx I2 (.cons rfl r) q2
theorem c6 {pl:Sem Bool}(he:PE X o ta)(c:Cls X.K C)(hm:KD X.K C m f)(F:aN X.prog X.w X.K X.mg X.base CX k f fd ps sp)(hr:cI k X.A)(hb:cZ X.K fd ps ds)(hd:bH dvs ds)(hx:iF CX X E)
  (ht:eval (.Call (.Attribute o m apos) [] [] pos) X.env=(do
   let ov ← eval o X.env
   standAt apos.atName
   let (f,first) ← holding [ov] (getMethod ov m pl)
   callWith pos f first (backTo pos (starEach [] X.env)) (backToKw pos (keywordEach [] X.env))):=by rfl):
  PE X (.Call (.Attribute o m apos) [] [] pos) (HX C m sp dvs E ta NU):=by
 intro pins s σ H Q I h;refine PySem.W.methodCall_KW (pl:=pl) (thn (he pins s σ H _ I h) λu s1 ⟨x,H1,I1,rx,a,dx,fs,ex,ea,l,q⟩=>?_) ht;subst ex;obtain rfl:u=Value.ref a:=rx;refine mX I1 ea c hm l ?_;exact PySem.W.callWith_K0 (first:=[.ref a]) I1.kIn hm.kp (yY (us:=[.ref a]) (vs:=[.ref a]) F hr hb hd hx I1 (.cons rfl .nil) q)
structure Mk (K:PySem.W.Frag)(C f:Addr):Prop where
 makes:PySem.W.makesIn K C=true
 init:PySem.W.findIn K (.ref C) "__init__" = some (some (.ref f))
 fn:PySem.W.isFn K (.ref f)=true
 kp:PySem.W.keepIn K (.ref C)=true
theorem BV {pins:List (Addr×Obj)}{σ:St}{H:Hp}{s:Shared}{Q:VK}{us:List Value}{vs:List V}(M:Mk X.K C f)(F:aN X.prog X.w X.K X.mg X.base CX k f fd ps sp)(hr:cI (k+1) X.A)(hb:cZ X.K fd ps ds)(hd:bH dvs ds)
  (hx:iF CX X E) (I:Inv X pins σ H s) (r:bH vs us)
  (h:∀ x dx,H x=none->H dx=none->dx≠x->sp (.ref x::(vs++dvs)) (upd (upd H dx (.own x)) x (.ins C dx [])) (λv H2=>v=.non/\Q (.ref x) H2) E):
  wpAny (model X.prog X.w) X.A (call (.ref C) us) (EP X pins σ Q) X.xe s:=by
 have hq:=h (s.heap.objs.size+1) s.heap.objs.size (I.hok.fresh (Nat.le_succ _)) (I.hok.fresh (Nat.le_refl _)) (Nat.ne_of_lt (Nat.lt_succ_self _));have I2:=Inv.made (C:=C) I;have r2:bH (V.ref (s.heap.objs.size+1)::(vs++dvs)) (Value.ref (s.heap.objs.size+1)::(us++ds)):=.cons rfl (r.append hd)
 have hl:(Value.ref (s.heap.objs.size+1)::us++ds).length=ps.length:=by
  have e:=r2.length;rw[F.len _ _ _ _ hq] at e;exact e.symm
 refine wpAny_call (LS (f:=f) I.kIn M.makes M.init (beq_iff_eq.mp M.fn) (codeAny_mono (F.run _ X.stack _ _ ⟨Value.ref (s.heap.objs.size+1)::us,[]⟩ (Value.ref (s.heap.objs.size+1)::(us++ds)) _ _ E (hr.make C us [])
  (I2.env0.make C us []) (hb _ (Value.ref (s.heap.objs.size+1)::us) I2.kIn hl) r2 hq) λr s' hq'=>?_))
 cases r with
 | error e=>exact hx pins σ _ _ e s' I2 hq'
 | ok fl=>
  cases fl with
  | ret u=>
   obtain ⟨v,H',I3,rv,ev,q3⟩:=I2.after hq';subst ev;exact ⟨rv,⟨V.ref (s.heap.objs.size+1),H',I3,rfl,q3⟩⟩
  | next=>exact False.elim hq'
  | brk=>exact False.elim hq'
  | cont=>exact False.elim hq'
theorem cD (M:Mk X.K C f)(F:aN X.prog X.w X.K X.mg X.base CX k f fd ps sp)(hr:cI (k+1) X.A)(hg:Gl X x)(hm:X.mg x=some (.ref C))(hb:cZ X.K fd ps ds)(hd:bH dvs ds)(hx:iF CX X E)
  (ha:PA X (e::es) t) (hdb:(x==("__debug__" : Str))=false:=by decide) (he:starEach (e::es) X.env=(false,eval e X.env)::starEach es X.env:=by rfl) (hpl:(backTo pos (starEach es X.env)).any (·.1)=false:=by rfl):
  PE X (.Call (.Name x p) (e::es) [] pos) (HW C sp dvs E t):=by
 intro pins s σ H Q I h;refine wpAny_Call_Name_kw (jQ I hg hm ?_ hdb);refine PySem.W.callWith_K (h₀:=X.base) I.ok.mod.kin M.kp (thn (ha pos pins s σ H _ I h) λus s1 ⟨vs,H1,I1,r,q⟩=>⟨I1.kIn,?_⟩) he hpl;exact BV M F hr hb hd hx I1 r q
theorem BP (M:Mk X.K C f)(F:aN X.prog X.w X.K X.mg X.base CX k f fd ps sp)(hr:cI (k+1) X.A)(hg:Gl X x)(hm:X.mg x=some (.ref C))(hb:cZ X.K fd ps ds)(hd:bH dvs ds)(hx:iF CX X E)
  (hdb:(x==("__debug__" : Str))=false:=by decide):PE X (.Call (.Name x p) [] [] pos) (HW C sp dvs E NU):=by
 intro pins s σ H Q I h;refine wpAny_Call_Name_kw (jQ I hg hm ?_ hdb);exact PySem.W.callWith_K0 I.kIn M.kp (BV (us:=[]) M F hr hb hd hx I .nil h)
end
structure aO (N P:List Str)(sc:Scope):Prop where
 kind:sc.kind=.function
 co:sc.isCoroutine=false
 gen:sc.isGenerator=false
 nd:N.Nodup
 pre:N.take P.length=P
 par:∀ x∈P,sc.names.lookup x=some .local∨sc.names.lookup x=some .cell
 nofree:∀ y∈sc.names,y.2≠.free
theorem wG {kindOf:Str->Option NameKind}{x:Str}:∀ {binds:List (Str×Value)} {m:Str->Option Value},(∀ v,(x,v)∉binds)->bindL kindOf binds m x=m x
 | [],_,_=>rfl
 | (n,v)::r,m,h=>by
  unfold bindL;rw[wG λw hw=>h w (List.mem_cons_of_mem _ hw)]
  split
  ·have:x≠n:=by rintro rfl;exact h v List.mem_cons_self
   simp[this]
  ·rfl
theorem wE {kindOf:Str->Option NameKind}{x:Str}:∀ {binds:List (Str×Value)} {m:Str->Option Value},(∀ v,(x,v)∉binds)->bindC kindOf binds m x=m x
 | [],_,_=>rfl
 | (n,v)::r,m,h=>by
  unfold bindC;rw[wE λw hw=>h w (List.mem_cons_of_mem _ hw)]
  split
  ·rfl
  ·have:x≠n:=by rintro rfl;exact h v List.mem_cons_self
   simp[this]
theorem wF {kindOf:Str->Option NameKind}{x:Str}{v:Value}:∀ {P:List Str} {vs:List Value} {i:Nat} {m:Str->Option Value},P.Nodup->P[i]?=some x->vs[i]?=some v->kindOf x=some .local->
  bindL kindOf (P.zip vs) m x=some v
 | [],_,_,_,_,h,_,_=>by simp at h
 | _::_,[],_,_,_,_,h,_=>by simp at h
 | p::P,w::vs,0,m,nd,h1,h2,hk=>by
  simp at h1 h2;subst h1;subst h2;show bindL kindOf ((p,w)::P.zip vs) m p=_;unfold bindL;rw[wG λv hv=>(List.nodup_cons.mp nd).1 (List.of_mem_zip hv).1,if_pos hk];simp
 | p::P,w::vs,i+1,m,nd,h1,h2,hk=>by
  show bindL kindOf ((p,w)::P.zip vs) m x=_;unfold bindL;exact wF (i:=i) (List.nodup_cons.mp nd).2 (by simpa using h1) (by simpa using h2) hk
theorem wD {kindOf:Str->Option NameKind}{x:Str}{v:Value}:∀ {P:List Str} {vs:List Value} {i:Nat} {m:Str->Option Value},P.Nodup->P[i]?=some x->vs[i]?=some v->kindOf x≠some .local->
  bindC kindOf (P.zip vs) m x=some v
 | [],_,_,_,_,h,_,_=>by simp at h
 | _::_,[],_,_,_,_,h,_=>by simp at h
 | p::P,w::vs,0,m,nd,h1,h2,hk=>by
  simp at h1 h2;subst h1;subst h2;show bindC kindOf ((p,w)::P.zip vs) m p=_;unfold bindC;rw[wE λv hv=>(List.nodup_cons.mp nd).1 (List.of_mem_zip hv).1,if_neg hk];simp
 | p::P,w::vs,i+1,m,nd,h1,h2,hk=>by
  show bindC kindOf ((p,w)::P.zip vs) m x=_;unfold bindC;exact wD (i:=i) (List.nodup_cons.mp nd).2 (by simpa using h1) (by simpa using h2) hk
def start (N:List Str)(vs:List V):St:=vs.map some++List.replicate (N.length-vs.length) none
def mQ (CX:CXT)(P:Program)(w:World)(K:PySem.W.Frag)(mg:Str->Option Value)(base:Heap)(N:List Str)(qual:Str)(scope:Scope)(f:Addr)(cd:Value)(A:Around)(outer:List Env)(s:Shared)(H:Hp)(E:XK):Cx where
 prog:=P
 w:=w
 K:=K
 mg:=mg
 base:=base
 A:=A.deeper (envOfC qual scope s.heap.objs.size f cd)
 N:=N
 s_0:=s
 H_0:=H
 env:=envOfC qual scope s.heap.objs.size f cd
 outer:=outer
 stack:=envOfC qual scope s.heap.objs.size f cd::outer
 ex:=[]
 calm:=true
 fn:=λ_=>true
 pn:=[]
 xe:=λe s'=>wpAny (model P w) (A.deeper (envOfC qual scope s.heap.objs.size f cd)) (leaving (envOfC qual scope s.heap.objs.size f cd) e) (λ_ s''=>CX outer H s E e s'') (λe' s''=>CX outer H s E e' s'') s'
theorem AI {sc:Scope}{n:Nat}{x:Str}(h:sc.names.lookup x=some .cell):∃ c,(cellsFrom n sc.names []).lookup x=some c:=by
 have q:=PySem.W.cellsFrom_some sc.names n [] (.inl h);exact Option.isSome_iff_exists.mp q
theorem wP {CX:CXT}{P:Program}{w:World}{K:PySem.W.Frag}{mg:Str->Option Value}{base:Heap}{N ps:List Str}{qual:Str}{scope:Scope}{f:Addr}{cd:Value}{A:Around}{outer:List Env}{s s1:Shared}{H:Hp}{E:XK}{us:List Value}{vs:List V}
  (S:aO N ps scope) (hd:A.handled=none) (e0:xO P w K mg base A outer s H) (hl:vs.length=ps.length) (r:bH vs us)
  (x:InCallC s s.heap.objs.size (bindL (envOfC qual scope s.heap.objs.size f cd).kindOf (ps.zip us) λ_=>none) (cellsFrom (s.heap.objs.size+1) scope.names []) (bindC (envOfC qual scope s.heap.objs.size f cd).kindOf (ps.zip us) λ_=>none) s1):
  Inv (mQ CX P w K mg base N qual scope f cd A outer s H E) [] (start N vs) H s1:=by
 have hpl:ps.length<=N.length:=by have:=congrArg List.length S.pre;rw[List.length_take] at this;lia
 obtain ⟨h1,tk,rfl,hk⟩:=x.done;have noA:∀ b:Addr,b∉(mQ CX P w K mg base N qual scope f cd A outer s H E).ex:=λb z=>absurd (show b∈([]:List Addr) from z) (by simp)
 refine ⟨⟨e0.mod,S.kind,rfl,rfl,Nat.le_refl _,λy z c h1 h2=>?_,λy hy=>?_,λy c _ h=>?_,λ_=>hd,Around.frames_deeper e0.frames,.inr ⟨rfl,rfl⟩,λb z=>absurd z (noA b),e0.bs,e0.bsz,λb _ _=>noA b,λb z=>absurd z (noA b),e0.funs,e0.frf⟩,
  rfl,e0.bare,Un.kept hk,⟨_,x.toInCall.ns,λi y v h1 h2 h3=>?_⟩,λy c h=>⟨_,x.cell y c h⟩,e0.hok.fresh (Nat.le_refl _),λy c h=>?_,λp hp=>absurd (show p∈([]:List (Addr×Obj)) from hp) (by simp),e0.hok.kept hk,?_⟩
 ·exact name_of_addr x.apart (PySem.mem_of_lookup h1) (PySem.mem_of_lookup h2)
 ·have hy:scope.names.lookup y=some .cell∨scope.names.lookup y=some .free:=hy
  rcases hy with hy|hy
  ·exact AI hy
  ·exact absurd rfl (S.nofree _ (PySem.mem_of_lookup hy))
 ·exact Nat.le_of_lt (x.above y c (PySem.mem_of_lookup h))
 ·have hi:i<vs.length:=by
   unfold start at h2
   by_cases hi:i<vs.length
   ·exact hi
   ·rw[List.getElem?_append_right (by simpa using hi)] at h2;rw[List.getElem?_replicate] at h2;split at h2<;>cases h2
  have ha:vs[i]?=some v:=by
   unfold start at h2;rw[List.getElem?_append_left (by simpa using hi),List.getElem?_map] at h2
   cases e:vs[i]? with
   | none=>rw[e] at h2;cases h2
   | some a=>rw[e] at h2;cases h2;rfl
  obtain ⟨u,hu,rv⟩:=r.get ha
  have hp:ps[i]?=some y:=by
   rw[← S.pre,List.getElem?_take_of_lt (by lia)];exact h1
  have ndP:ps.Nodup:=by rw[← S.pre];exact S.nd.sublist (List.take_sublist _ _)
  refine ⟨u,rv,?_⟩
  rcases S.par y (List.mem_of_getElem? hp) with k|k
  ·exact .inl ⟨k,wF ndP hp hu k⟩
  ·obtain ⟨c,e⟩:=AI (n:=s.heap.objs.size+1) k;refine .inr ⟨.inl k,c,e,?_⟩;have q:=x.cell y c e;rw[wD ndP hp hu (by show scope.names.lookup y≠_;rw[k];decide)] at q;exact q
 ·exact e0.hok.fresh (Nat.le_of_lt (x.above y c (PySem.mem_of_lookup h)))
 ·unfold start;show _=N.length;rw[List.length_append,List.length_map,List.length_replicate];lia
theorem RB {CX:CXT}{P:Program}{w:World}{K:PySem.W.Frag}{mg:Str->Option Value}{base:Heap}{k:Nat}{f:Addr}{name qual:Str}{params:Arguments}{body:List Stmt}{scope:Scope}{dV kV doc pm cdv ct oc:Value}{an od:Option Addr}
  {osl:Array (Option Value)} {N ps:List Str} {sp:Sp} (lk:K.lookup f=some ⟨oc,od,.func (PySem.W.fnOf name qual params body scope dV kV doc pm an cdv ct),osl⟩) (hcd:PySem.W.codeIn K cdv qual=true) (S:aO N ps scope)
  (len:∀ vs H Q E,sp vs H Q E->vs.length=ps.length)
  (hbody:∀ (A:Around) (outer:List Env) (s:Shared) (H:Hp) (vs:List V) (Q:VK) (E:XK),cI k (A.deeper (envOfC qual scope s.heap.objs.size f cdv))->sp vs H Q E->
   ∃ t,PSs (mQ CX P w K mg base N qual scope f cdv A outer s H E) body t/\t { nx:=λ_ H'=>Q .non H',rt:=Q } (start N vs) H):
  aN P w K mg base CX (k+1) f (PySem.W.fnOf name qual params body scope dV kV doc pm an cdv ct) ps sp:=by
 refine ⟨len,λA outer s H args us vs Q E hr e0 hb r hsp=>?_⟩;have hl:=len _ _ _ _ hsp;have KX:K.In s.heap:=e0.mod.kin.keeps λb o e=>(e0.bs b o e).1;have lim:s.heap.NoLimit:=e0.mod.nolimit.keeps λb o e=>(e0.bs b o e).1
 have hkind:∀ y∈ps.zip us,scope.names.lookup y.1=some .local∨(scope.names.lookup y.1=some .cell/\((cellsFrom (s.heap.objs.size+1) scope.names []).lookup y.1).isSome=true):=λ⟨n,v⟩ hy=>by
  rcases S.par n (List.of_mem_zip hy).1 with q|q
  ·exact .inl q
  ·exact .inr ⟨q,PySem.W.cellsFrom_some _ _ _ (.inl q)⟩
 refine codeAny_call_function hr.depth (KX _ _ lk) rfl S.co S.gen rfl (PySem.W.codeRec_of KX hcd) (hb _ _ _ _ ?_);refine wpAny_newFunctionEnv_cells S.kind hkind λenv he s1 x=>?_;subst he;refine ⟨lim.keeps x.toInCall.keep,codeAny_func ?_⟩;obtain ⟨t,ht,hq⟩:=hbody A outer s H vs Q E (hr.deeper _) hsp;have I:Inv (mQ CX P w K mg base N qual scope f cdv A outer s H E) [] (start N vs) H s1:=wP S hr.hd e0 hl r x;refine wpAny_mono (ht [] s1 (start N vs) H _ I hq) (λfl s' hs=>?_) λe s' hs=>hs
 have fin:∀ {σ':St} {H':Hp} {v:V} {u:Value},Inv (mQ CX P w K mg base N qual scope f cdv A outer s H E) [] σ' H' s'->bP v u->Q v H'->CE outer P w H s Q u s':=
  λ{σ' H' v u} J rv q=>⟨v,H',J.os,J.bare,J.base,J.hok,rv,q⟩
 cases fl with
 | ret u=>
  obtain ⟨v,σ',H',J,rv,q⟩:=hs;exact fin J rv q
 | next=>
  obtain ⟨σ',H',J,q⟩:=hs;exact fin (v:=V.non) (u:=Value.none) J rfl q
 | brk=>
  obtain ⟨_,_,_,q⟩:=hs;exact False.elim q
 | cont=>
  obtain ⟨_,_,_,q⟩:=hs;exact False.elim q
end L2
namespace L2
open PySem PySem.Spec PyProof.Rows
section
variable {X:Cx}{x:Str}{p pos:Pos}{e:Expr}{es:List Expr}{t:TA}{id T:String}{r:List V->Hp->VK->Prop}
def tCB (r:List V->Hp->VK->Prop)(t:TA):TE:=λσ H Q=>t σ H λvs H1=>r vs H1 Q
theorem b9 (hc:A9 X (.builtin id) r)(hg:Gl X x)(hm:X.mg x=none)(hv:bootBuiltins x=some (.builtin id))(ha:PA X (e::es) t)(hn:x ≠ "__name__" := by decide)(hdb:(x==("__debug__" : Str))=false:=by decide)
  (he:starEach (e::es) X.env=(false,eval e X.env)::starEach es X.env:=by rfl) (hpl:(backTo pos (starEach es X.env)).any (·.1)=false:=by rfl):PE X (.Call (.Name x p) (e::es) [] pos) (tCB r t):=by
 intro pins s σ H Q I h;refine wpAny_Call_Name_kw (uC I hg hm hv ?_ hn hdb);exact PyProof.Rows.callWith_builtin1 (thn (ha pos pins s σ H _ I h) λus s1 ⟨vs,H1,I1,r1,q1⟩=>hc pins s1 σ H1 vs us Q I1 r1 q1) he hpl
theorem r9 (hc:A9 X (.type T) r)(hg:Gl X x)(hm:X.mg x=none)(hv:bootBuiltins x=some (.type T))(ha:PA X (e::es) t)(hn:x ≠ "__name__" := by decide)(hdb:(x==("__debug__" : Str))=false:=by decide)
  (he:starEach (e::es) X.env=(false,eval e X.env)::starEach es X.env:=by rfl) (hpl:(backTo pos (starEach es X.env)).any (·.1)=false:=by rfl):PE X (.Call (.Name x p) (e::es) [] pos) (tCB r t):=by
 intro pins s σ H Q I h;refine wpAny_Call_Name_kw (uC I hg hm hv ?_ hn hdb);exact PyProof.Rows.callWith_type1 (thn (ha pos pins s σ H _ I h) λus s1 ⟨vs,H1,I1,r1,q1⟩=>hc pins s1 σ H1 vs us Q I1 r1 q1) he hpl
end
end L2
namespace HT
open PySem PyProof.Rows
section
variable {prog:Program}{w:World}{A:Around}{E:Value->Shared->Prop}{s:Shared}
def sIx (n d:Nat):Option Int->Nat
 | none=>d
 | some v=>if v<0 then (v+(n:Int)).toNat else min v.toNat n
theorem sIx_nat (n d k:Nat):sIx n d (some (k:Int))=min k n:=by
 show (if (k:Int)<0 then ((k:Int)+(n:Int)).toNat else min (k:Int).toNat n)=min k n;rw[if_neg (by lia),Int.toNat_natCast]
end
end HT
namespace L2
open PySem PySem.Spec PyProof.Rows
abbrev TO:=St->Hp->(Option Int->Hp->Prop)->Prop
def PO (X:Cx)(e:Option Expr)(t:TO):Prop:=
 ∀ (pins:List (Addr×Obj)) (s:Shared) (σ:St) (H:Hp) (Q:Option Int->Hp->Prop),Inv X pins σ H s->t σ H Q->
  wpAny (model X.prog X.w) X.A (evalPart e X.env) (λu s'=>∃ o H',Inv X pins σ H' s'/\IsPart u o/\Q o H') X.xe s
def QW:TO:=λ_ H Q=>Q none H
def S1 (t:TE):TO:=λσ H Q=>t σ H λx H1=>∃ i,x=.int i/\Q (some i) H1
section
variable {X:Cx}{e:Expr}{te:TE}{lo hi:Option Expr}{tl th:TO}{pos p2:Pos}
theorem Q5:PO X none QW:=by
 intro pins s σ H Q I h;rw[evalPart_none];exact wpAny_pure ⟨none,H,I,.none,h⟩
theorem jW (h:PE X e te):PO X (some e) (S1 te):=by
 intro pins s σ H Q I hw;rw[evalPart_some];refine thn (h pins s σ H _ I hw) λu s1 ⟨x,H1,I1,r1,q1⟩=>?_;obtain ⟨i,rfl,q⟩:=q1;obtain ⟨t,rfl⟩:=r1;exact ⟨some i,H1,I1,.int i t,q⟩
def SlR (X:Cx)(r:V->Option Int->Option Int->Hp->VK->Prop):Prop:=
 ∀ (pins:List (Addr×Obj)) (s:Shared) (σ:St) (H:Hp) (x:V) (v vl vu:Value) (lo hi:Option Int) (sl:Addr) (Q:VK),Inv X pins σ H s->bP x v->s.heap.IsSliceOf sl vl vu .none->IsPart vl lo->IsPart vu hi->r x lo hi H Q->
  ∃ T id,typeLookup (.type T) "__getitem__" = pure (some (.builtin id))/\s.TypeIs v T/\wpAny (model X.prog X.w) X.A (getItem v (.ref sl)) (EP X pins σ Q) X.xe s
def tSl (r:V->Option Int->Option Int->Hp->VK->Prop)(te:TE)(tl th:TO):TE:=λσ H Q=>te σ H λx H1=>tl σ H1 λl H2=>th σ H2 λu H3=>r x l u H3 Q
theorem pP {r:V->Option Int->Option Int->Hp->VK->Prop}(hr:SlR X r)(he:PE X e te)(hl:PO X lo tl)(hu:PO X hi th):PE X (.Subscript e (.Slice lo hi none p2) pos) (tSl r te tl th):=by
 intro pins s σ H Q I h;refine Subscript_ (thn (he pins s σ H _ I h) λv s1 ⟨x,H1,I1,r1,q1⟩=>?_);refine wpAny_Slice (thn (hl pins s1 σ H1 _ I1 q1) λvl s2 ⟨l,H2,I2,pl,q2⟩=>thn (hu pins s2 σ H2 _ I2 q2) λvu s3 ⟨u,H3,I3,pu,q3⟩=>?_);rw[evalPart_none];refine wpAny_pure ?_;have I4:Inv X pins σ H3 { s3 with heap:=s3.heap.push { cls:=.type "slice",data:=.fields #[vl,vu,.none] } }:=I3.kept (t':=s3.toks) λb ob q=>Heap.get?_push_of_some _ q;obtain ⟨T,id,hT,ht,hg⟩:=hr pins { s3 with heap:=s3.heap.push { cls:=.type "slice",data:=.fields #[vl,vu,.none] } } σ H3 x v vl vu l u s3.heap.objs.size Q I4 r1 (Heap.IsSliceOf.new ..) pl pu q3;show wpAny (model X.prog X.w) X.A (subscriptTail e (.Slice lo hi none p2) v (.ref s3.heap.objs.size)) (EP X pins σ Q) X.xe { s3 with heap:=s3.heap.push { cls:=.type "slice",data:=.fields #[vl,vu,.none] } };exact tail_any (ops:=[.ref s3.heap.objs.size,v]) ht hT hg (by with_unfolding_all rfl)
def sP (xs:List V)(lo hi:Option Int):List V:=(xs.drop (HT.sIx xs.length 0 lo)).take (HT.sIx xs.length xs.length hi-HT.sIx xs.length 0 lo)
theorem AK (xs:List V)(lo hi:Option Int):(sP xs lo hi).length<=xs.length:=by
 unfold sP;rw[List.length_take,List.length_drop];lia
end
end L2
namespace L2
open PySem PySem.Spec PyProof.Rows
def ixN (n:Nat)(i:Int):Option Nat:=if 0<=i then (if i<n then some i.toNat else none) else if -(n:Int)<=i then some (i+n).toNat else none
def atI {α:Type}(xs:List α)(i:Int):Option α:=(ixN xs.length i).bind λj=>xs[j]?
theorem FZ {n:Nat}{i:Int}{j:Nat}(h:ixN n i=some j):seqIndex? i n=some j/\j<n/\-(n:Int)<=i/\i<n:=by
 unfold ixN at h
 by_cases h0:0<=i
 ·rw[if_pos h0] at h
  by_cases h1:i<n
  ·rw[if_pos h1] at h;have e:i.toNat=j:=Option.some.inj h;exact ⟨by rw[seqIndex_of h0 h1,e],by lia,by lia,h1⟩
  ·rw[if_neg h1] at h;cases h
 ·rw[if_neg h0] at h
  by_cases h1:-(n:Int)<=i
  ·rw[if_pos h1] at h;have e:(i+n).toNat=j:=Option.some.inj h;exact ⟨by rw[seqIndex_neg (by lia) h1,e],by lia,h1,by lia⟩
  ·rw[if_neg h1] at h;cases h
theorem xV {α:Type}{xs:List α}{i:Int}{v:α}(h:atI xs i=some v):∃ j,seqIndex? i xs.length=some j/\xs[j]?=some v/\j<xs.length/\-(xs.length:Int)<=i/\i<xs.length:=by
 unfold atI at h
 cases e:ixN xs.length i with
 | none=>rw[e] at h;cases h
 | some j=>
  rw[e] at h;obtain ⟨h1,h2,h3,h4⟩:=FZ e;exact ⟨j,h1,h,h2,h3,h4⟩
theorem aX {α:Type}{xs:List α}{j:Nat}{v:α}(h:xs[j]?=some v):atI xs (j:Int)=some v:=by
 have hj:j<xs.length:=(List.getElem?_eq_some_iff.mp h).1
 have e:ixN xs.length (j:Int)=some j:=by
  unfold ixN;rw[if_pos (by lia),if_pos (by lia)];simp
 unfold atI;rw[e];exact h
def OH (b:Expr):Prop:=∀ o i,subscripted b false o i=operate [o,i] (getItem o i)
def IxR (X:Cx)(r:R2):Prop:=
 ∀ (value slice:Expr) (pins:List (Addr×Obj)) (s:Shared) (σ:St) (H:Hp) (x y:V) (v u:Value) (Q:VK),Inv X pins σ H s->bP x v->bP y u->r x y H Q->
  subscripted slice false v u=operate [v,u] (getItem v u)->wpAny (model X.prog X.w) X.A (subscriptTail value slice v u) (EP X pins σ Q) X.xe s
def MtR (X:Cx)(id:String)(r:V->List V->Hp->VK->Prop):Prop:=
 ∀ (pins:List (Addr×Obj)) (s:Shared) (σ:St) (H:Hp) (x:V) (xs:List V) (v:Value) (us:List Value) (Q:VK),Inv X pins σ H s->bP x v->bH xs us->r x xs H Q->
  wpAny (model X.prog X.w) X.A (call (.builtin id) (v::us)) (EP X pins σ Q) X.xe s
section
variable {X:Cx}{a b:Expr}{ta tb:TE}{pos:Pos}
theorem aK {r:R2}(hr:IxR X r)(ha:PE X a ta)(hb:PE X b tb)(hs:OH b):PE X (.Subscript a b pos) (tOp r ta tb):=by
 intro pins s σ H Q I h;exact Subscript_ (SE ha hb I h λv u s2 x y H2 I2 rx ry q=>hr a b pins s2 σ H2 x y v u Q I2 rx ry q (hs _ _))
inductive TM (K:PySem.W.Frag) (x y:V) (H:Hp) (Q:VK):Prop
 | mk:∀ p xs i v,x=.ref p->y=.int i->SqL K H p xs->atI xs i=some v->Q v H->TM K x y H Q
theorem MS {K:PySem.W.Frag}{x y:V}{H:Hp}{Q:VK}:TM K x y H Q↔∃ p xs i v,x=.ref p/\y=.int i/\SqL K H p xs/\atI xs i=some v/\Q v H:=⟨λ⟨a0,a1,a2,a3,a4,a5,a6,a7,a8⟩=>⟨a0,a1,a2,a3,a4,a5,a6,a7,a8⟩,λ⟨a0,a1,a2,a3,a4,a5,a6,a7,a8⟩=>⟨a0,a1,a2,a3,a4,a5,a6,a7,a8⟩⟩
inductive Q7 (K:PySem.W.Frag) (x y:V) (H:Hp) (Q:VK):Prop
 | mk:∀ p xs i v,x=.ref p->y=.int i->SqT K H p xs->atI xs i=some v->Q v H->Q7 K x y H Q
theorem MT {K:PySem.W.Frag}{x y:V}{H:Hp}{Q:VK}:Q7 K x y H Q↔∃ p xs i v,x=.ref p/\y=.int i/\SqT K H p xs/\atI xs i=some v/\Q v H:=⟨λ⟨a0,a1,a2,a3,a4,a5,a6,a7,a8⟩=>⟨a0,a1,a2,a3,a4,a5,a6,a7,a8⟩,λ⟨a0,a1,a2,a3,a4,a5,a6,a7,a8⟩=>⟨a0,a1,a2,a3,a4,a5,a6,a7,a8⟩⟩
inductive W3 (x y:V) (H:Hp) (Q:VK):Prop
 | mk:∀ z i c,x=.str z->y=.int i->z.length<=sizeLine->atI z.cps.toList i=some c->Q (.str ⟨#[c]⟩) H->W3 x y H Q
theorem aL:IxR X (TM X.K):=by
 intro value slice pins s σ H x y v u Q I rx ry h hs;obtain ⟨p,xs,i,z,rfl,rfl,hq,he,q⟩:=h;cases rx;obtain ⟨t,rfl⟩:=ry;obtain ⟨its,r,pl,hz⟩:=I.list hq;obtain ⟨j,h1,h2,h3,h4,h5⟩:=xV he;obtain ⟨w,ew,rw'⟩:=r.get h2;have hl:=r.length;have hn:=uD
 have fin:EP X pins σ Q w s:=⟨z,H,I,rw',q⟩
 by_cases h0:0<=i
 ·have hj:i.toNat=j:=by
   rw[seqIndex_of h0 h5] at h1;exact Option.some.inj h1
  exact item_listR pl.isList h0 (by lia) (by rw[hj];simpa using ew) fin hs
 ·have hj:(i+(its.toArray.size:Int)).toNat=j:=by
   rw[seqIndex_neg (by lia) h4] at h1;rw[List.size_toArray,← hl];exact Option.some.inj h1
  exact subscriptTail_builtinR (x:=w) pl.isList.typeIs slot_list_getitem.lookup
   (wpAny_getItem_list_neg (Q:=λr s'=>r=w/\EP X pins σ Q r s') pl.isList (by lia) (by rw[List.size_toArray]<;>lia) (by lia) (by rw[hj];simpa using ew) ⟨rfl,fin⟩) hs
theorem aW:IxR X (Q7 X.K):=by
 intro value slice pins s σ H x y v u Q I rx ry h hs;obtain ⟨p,xs,i,z,rfl,rfl,hq,he,q⟩:=h;cases rx;obtain ⟨t,rfl⟩:=ry;obtain ⟨its,r,pl,hz⟩:=I.tuple hq;obtain ⟨j,h1,h2,h3,h4,h5⟩:=xV he;obtain ⟨w,ew,rw'⟩:=r.get h2;have hl:=r.length;have hn:=uD
 have fin:EP X pins σ Q w s:=⟨z,H,I,rw',q⟩
 exact subscriptTail_builtinR (x:=w) pl.typeIs slot_tuple_getitem.lookup
  (getItem_tuple (j:=j) (Q:=λr s'=>r=w/\EP X pins σ Q r s') pl (by lia) (by lia) (by rw[List.size_toArray,← hl];exact h1) (by simpa using ew) ⟨rfl,fin⟩) hs
theorem SO:IxR X W3:=by
 intro value slice pins s σ H x y v u Q I rx ry h hs;obtain ⟨z,i,c,rfl,rfl,hz,he,q⟩:=h;obtain ⟨t,rfl⟩:=rx;obtain ⟨t',rfl⟩:=ry;obtain ⟨j,h1,h2,h3,h4,h5⟩:=xV he;have hl:z.cps.toList.length=z.length:=by simp[Str.length]
 rw[hl] at h1 h4 h5;have hn:=uD
 exact tail_any (typeIs_str s z t) slot_str_getitem.lookup (getItem_str (c:=c) (by
  have e1:decide (i < -(2^63:Int))=false:=decide_eq_false (by lia);have e2:decide (i ≥ 2^63)=false:=decide_eq_false (by lia)
  rw[e1,e2,Bool.or_false]) (by rw[h1];simpa using h2) ⟨.str ⟨#[c]⟩,H,I.tok _,⟨_,rfl⟩,q⟩) hs
theorem DQ (its:List Value)(n j:Nat)(u:Value):Obj.mapSeq (·.setIfInBounds j u) { cls:=.type "list",data:=.seq its.toArray n }={ cls:=.type "list",data:=.seq (its.set j u).toArray n }:=by
 simp[Obj.mapSeq]
theorem Inv.lst {pins:List (Addr×Obj)}{σ:St}{H:Hp}{s:Shared}{p:Addr}{xs:List V}(I:Inv X pins σ H s)(h:H p=some (.lst xs)):
  ∃ (its:List Value) (n:Nat),bH xs its/\s.heap.get? p=some { cls:=.type "list",data:=.seq its.toArray n }/\xs.length<=sizeLine:=by
 obtain ⟨z,its,n,r,e⟩:=I.hok p _ h;exact ⟨its,n,r,e,z⟩
theorem Inv.lstUpd {pins:List (Addr×Obj)}{σ:St}{H:Hp}{s:Shared}{p:Addr}{xs ys:List V}{its its':List Value}{n n':Nat}{f:Obj->Obj}(I:Inv X pins σ H s)(h:H p=some (.lst xs))
  (ho:s.heap.get? p=some { cls:=.type "list",data:=.seq its.toArray n }) (hf:f { cls:=.type "list",data:=.seq its.toArray n }={ cls:=.type "list",data:=.seq its'.toArray n' }) (r:bH ys its') (hz:ys.length<=sizeLine) (t:Nat):
  Inv X pins σ (upd H p (.lst ys)) { s with heap:=s.heap.update p f,toks:=t }:=by
 have e:(s.heap.update p f).get? p=some { cls:=.type "list",data:=.seq its'.toArray n' }:=by
  rw[Heap.get?_update_self f ho (by rw[hf]<;>rfl),hf]
 refine I.write (x:=p) (e:=p) (by rw[h];trivial) (.inl rfl) (λb u hb q=>(Heap.get?_update_other _ _ (Ne.symm hb)).trans q) ⟨_,e⟩ ?_;exact ⟨hz,its',n',r,e⟩
inductive RP (o i v:V) (H:Hp) (Q:(Hp->Prop)):Prop
 | mk:∀ p xs k j,o=.ref p->i=.int k->H p=some (.lst xs)->ixN xs.length k=some j->Q (upd H p (.lst (xs.set j v)))->RP o i v H Q
theorem j8:V4 X RP:=by
 intro pins s σ H o i v ov iv u Q I ro ri rv h;obtain ⟨p,xs,k,j,rfl,rfl,hp,hj,q⟩:=h;cases ro;obtain ⟨t,rfl⟩:=ri;obtain ⟨its,n,r,ho,hz⟩:=I.lst hp;obtain ⟨h1,h2,h3,h4⟩:=FZ hj;have hl:=r.length;have hn:=uD
 have I':Inv X pins σ (upd H p (.lst (xs.set j v))) { s with heap:=s.heap.update p (Obj.mapSeq (·.setIfInBounds j u)) }:=
  I.lstUpd hp ho (DQ its n j u) (r.set rv j) (by rw[List.length_set];exact hz) s.toks
 by_cases h0:0<=k
 ·have hk:k.toNat=j:=by
   rw[seqIndex_of h0 h4] at h1;exact Option.some.inj h1
  exact PySem.W.ki_setAt ho h0 (by lia) (by rw[List.size_toArray,← hl];exact h4) (by rw[hk];exact ⟨_,I',q⟩)
 ·have hk:(k+(its.toArray.size:Int)).toNat=j:=by
   rw[seqIndex_neg (by lia) h3] at h1;rw[List.size_toArray,← hl];exact Option.some.inj h1
  exact PySem.W.ki_setBack ho (by lia) (by rw[List.size_toArray,← hl];exact h3) (by lia) (by rw[hk];exact ⟨_,I',q⟩)
theorem zH (lo hi:Option Int)(n:Nat):(sliceBounds lo hi none n).1=((HT.sIx n 0 lo:Nat):Int)/\(sliceBounds lo hi none n).2.1=((HT.sIx n n hi:Nat):Int)/\(sliceBounds lo hi none n).2.2=1:=by
 refine ⟨?_,?_,rfl⟩
 ·cases lo with
  | none=>simp[sliceBounds,HT.sIx]
  | some i=>
   simp only[sliceBounds,HT.sIx,Option.getD_none,show (1:Int) > 0 by decide,if_true]
   by_cases h:i<0
   ·simp only[h,if_true]<;>lia
   ·simp only[h,if_false]<;>lia
 ·cases hi with
  | none=>simp[sliceBounds,HT.sIx]
  | some i=>
   simp only[sliceBounds,HT.sIx,Option.getD_none,show (1:Int) > 0 by decide,if_true]
   by_cases h:i<0
   ·simp only[h,if_true]<;>lia
   ·simp only[h,if_false]<;>lia
theorem vY (its:List Value)(lo hi:Option Int):slicePick its.toArray lo hi none=((its.drop (HT.sIx its.length 0 lo)).take (HT.sIx its.length its.length hi-HT.sIx its.length 0 lo)).toArray:=by
 obtain ⟨h1,h2,h3⟩:=zH lo hi its.toArray.size;unfold slicePick;rw[h1,h2,h3];simp only[sliceRange_one,pick_run,List.size_toArray]<;>rfl
inductive TN (K:PySem.W.Frag) (x:V) (lo hi:Option Int) (H:Hp) (Q:VK):Prop
 | mk:∀ a xs,x=.ref a->SqL K H a xs->(∀ p,H p=none->Q (.ref p) (upd H p (.lst (sP xs lo hi))))->TN K x lo hi H Q
theorem TQ {K:PySem.W.Frag}{x:V}{lo hi:Option Int}{H:Hp}{Q:VK}:TN K x lo hi H Q↔∃ a xs,x=.ref a/\SqL K H a xs/\∀ p,H p=none->Q (.ref p) (upd H p (.lst (sP xs lo hi))):=⟨λ⟨a0,a1,a2,a3,a4⟩=>⟨a0,a1,a2,a3,a4⟩,λ⟨a0,a1,a2,a3,a4⟩=>⟨a0,a1,a2,a3,a4⟩⟩
theorem t5:SlR X (TN X.K):=by
 intro pins s σ H x v vl vu lo hi sl Q I rx hs pl pu h;obtain ⟨a,xs,rfl,hx,q⟩:=h;cases rx;obtain ⟨its,r,ht,hz⟩:=I.list hx;have hlen:=r.length;refine ⟨"list",_,slot_list_getitem.lookup,ht.isList.typeIs,?_⟩;refine wpAny_getItem_list_slice ht.isList hs pl pu .none (by simp) ?_ (by rw[List.size_toArray]<;>lia);rw[vY,← hlen];refine ⟨.ref s.heap.objs.size,_,I.laid (t':=s.toks) (o:=.lst (sP xs lo hi)) (λb ob q=>Heap.get?_push_of_some _ q) (Nat.le_refl _) ?_,rfl,q _ (I.hok.fresh (Nat.le_refl _))⟩;exact ⟨Nat.le_trans (AK xs lo hi) hz,_,0,(r.drop (HT.sIx xs.length 0 lo)).take (HT.sIx xs.length xs.length hi-HT.sIx xs.length 0 lo),Heap.get?_push_size _ rfl⟩
def kM:V->Bool
 | .non=>true
 | .bl _=>true
 | .int _=>true
 | .str _=>true
 | _=>false
def eqV:V->V->Bool
 | .non,.non=>true
 | .bl a,.bl b=>a==b
 | .bl a,.int b=>(if a then 1 else 0)==b
 | .int a,.bl b=>a==(if b then 1 else 0)
 | .int a,.int b=>a==b
 | .str a,.str b=>a==b
 | _,_=>false
theorem SJ {A:Around}{s:Shared}{y x:V}{u v:Value}(ry:bP y u)(rx:bP x v)(fy:kM y=true)(fx:kM x=true):SeqAt.EqAt A s u v (eqV y x):=by
 cases y with
 | non=>
  cases ry
  cases x with
  | non=>cases rx;exact SeqAt.EqAt.same _
  | bl b=>cases rx;exact SeqAt.EqAt.none_bool b
  | int b=>obtain ⟨t,rfl⟩:=rx;exact SeqAt.EqAt.none_int b t
  | str b=>obtain ⟨t,rfl⟩:=rx;exact SeqAt.EqAt.none_str b t
  | _=>exact absurd (show false=true from fx) Bool.false_ne_true
 | bl a=>
  cases ry
  cases x with
  | non=>cases rx;exact SeqAt.EqAt.bool_none a
  | bl b=>cases rx;exact SeqAt.EqAt.bool_bool a b
  | int b=>obtain ⟨t,rfl⟩:=rx;exact SeqAt.EqAt.bool_int a b t
  | str b=>obtain ⟨t,rfl⟩:=rx;exact SeqAt.EqAt.bool_str a b t
  | _=>exact absurd (show false=true from fx) Bool.false_ne_true
 | int a=>
  obtain ⟨t',rfl⟩:=ry
  cases x with
  | non=>cases rx;exact SeqAt.EqAt.int_none a t'
  | bl b=>cases rx;exact SeqAt.EqAt.int_bool a t' b
  | int b=>obtain ⟨t,rfl⟩:=rx;exact SeqAt.EqAt.int_int a t' b t
  | str b=>obtain ⟨t,rfl⟩:=rx;exact SeqAt.EqAt.int_str a t' b t
  | _=>exact absurd (show false=true from fx) Bool.false_ne_true
 | str a=>
  obtain ⟨t',rfl⟩:=ry
  cases x with
  | non=>cases rx;exact SeqAt.EqAt.str_none a t'
  | bl b=>cases rx;exact SeqAt.EqAt.str_bool a t' b
  | int b=>obtain ⟨t,rfl⟩:=rx;exact SeqAt.EqAt.str_int a t' b t
  | str b=>obtain ⟨t,rfl⟩:=rx;exact SeqAt.EqAt.str_str a t' b t
  | _=>exact absurd (show false=true from fx) Bool.false_ne_true
 | _=>exact absurd (show false=true from fy) Bool.false_ne_true
def eqU (x:V)(u:Value):Bool:=match u with
 | .none=>eqV .non x
 | .bool b=>eqV (.bl b) x
 | .int i _=>eqV (.int i) x
 | .str z _=>eqV (.str z) x
 | _=>false
theorem L9 {x y:V}{u:Value}(r:bP y u)(f:kM y=true):eqU x u=eqV y x:=by
 cases y with
 | non=>cases r;rfl
 | bl b=>cases r;rfl
 | int i=>obtain ⟨t,rfl⟩:=r;rfl
 | str z=>obtain ⟨t,rfl⟩:=r;rfl
 | _=>exact absurd (show false=true from f) Bool.false_ne_true
theorem oQ {x:V}:∀ {xs:List V} {us:List Value},bH xs us->xs.all kM=true->us.any (eqU x)=xs.any λy=>eqV y x
 | _,_,.nil,_=>rfl
 | y::xs,u::us,.cons r t,f=>by
  rw[List.all_cons,Bool.and_eq_true] at f;rw[List.any_cons,List.any_cons,L9 r f.1,oQ t f.2]
theorem lA {A:Around}{s:Shared}{x:V}{v:Value}(rx:bP x v)(fx:kM x=true):∀ {xs:List V} {us:List Value},bH xs us->xs.all kM=true->∀ u∈us,SeqAt.EqAt A s u v (eqU x u)
 | _,_,.nil,_=>λu hu=>by cases hu
 | y::xs,u::us,.cons r t,f=>λu' hu=>by
  rw[List.all_cons,Bool.and_eq_true] at f
  rcases List.mem_cons.mp hu with rfl|hu
  ·rw[L9 r f.1];exact SJ r rx f.1 fx
  ·exact lA rx fx t f.2 u' hu
def inV (x:V)(xs:List V):Bool:=xs.any λy=>eqV y x
inductive rIn (K:PySem.W.Frag) (neg:Bool) (x y:V) (H:Hp) (Q:VK):Prop
 | mk:∀ p xs,y=.ref p->(SqL K H p xs∨SqT K H p xs)->kM x=true->xs.all kM=true->Q (.bl (if neg then !inV x xs else inV x xs)) H->rIn K neg x y H Q
theorem RO {K:PySem.W.Frag}{neg:Bool}{x y:V}{H:Hp}{Q:VK}:rIn K neg x y H Q↔∃ p xs,y=.ref p/\(SqL K H p xs∨SqT K H p xs)/\kM x=true/\xs.all kM=true/\Q (.bl (if neg then !inV x xs else inV x xs)) H:=⟨λ⟨a0,a1,a2,a3,a4,a5,a6⟩=>⟨a0,a1,a2,a3,a4,a5,a6⟩,λ⟨a0,a1,a2,a3,a4,a5,a6⟩=>⟨a0,a1,a2,a3,a4,a5,a6⟩⟩
theorem mD:OpR X (compareOp .In) (rIn X.K false):=by
 intro pins s σ H x y v u Q I rx ry h;obtain ⟨p,xs,rfl,hq,fx,fs,q⟩:=h;cases ry
 rcases hq with hq|hq
 ·obtain ⟨its,r,pl,hz⟩:=I.list hq;refine SeqAt.in_listAt (eqU x) pl.isList (λw hw=>lA rx fx r fs w (by simpa using hw)) ⟨.bl _,H,I,rfl,?_⟩;rw[show its.toArray.any (eqU x)=its.any (eqU x) by simp,oQ r fs];exact q
 ·obtain ⟨its,r,pl,hz⟩:=I.tuple hq;refine SeqAt.in_tupleAt (eqU x) pl (λw hw=>lA rx fx r fs w (by simpa using hw)) ⟨.bl _,H,I,rfl,?_⟩;rw[show its.toArray.any (eqU x)=its.any (eqU x) by simp,oQ r fs];exact q
theorem yN:OpR X (compareOp .NotIn) (rIn X.K true):=by
 intro pins s σ H x y v u Q I rx ry h;obtain ⟨p,xs,rfl,hq,fx,fs,q⟩:=h;cases ry
 rcases hq with hq|hq
 ·obtain ⟨its,r,pl,hz⟩:=I.list hq;refine SeqAt.notIn_listAt (eqU x) pl.isList (λw hw=>lA rx fx r fs w (by simpa using hw)) ⟨.bl _,H,I,rfl,?_⟩;rw[show its.toArray.any (eqU x)=its.any (eqU x) by simp,oQ r fs];exact q
 ·obtain ⟨its,r,pl,hz⟩:=I.tuple hq;refine SeqAt.notIn_tupleAt (eqU x) pl (λw hw=>lA rx fx r fs w (by simpa using hw)) ⟨.bl _,H,I,rfl,?_⟩;rw[show its.toArray.any (eqU x)=its.any (eqU x) by simp,oQ r fs];exact q
theorem aU:A9 X (.builtin "len") (λxs H Q=>∃ p ys,xs=[.ref p]/\(SqL X.K H p ys∨SqT X.K H p ys)/\Q (.int ys.length) H):=by
 intro pins s σ H xs us Q I r h;obtain ⟨p,ys,rfl,hq,q⟩:=h;obtain ⟨u,rfl,rx⟩:=OC r;cases rx;have hn:=uD
 rcases hq with hq|hq
 ·obtain ⟨its,r',pl,hz⟩:=I.list hq;have hlen:=r'.length;exact Calls.call_len_list pl.isList (by simp only[List.size_toArray]<;>lia) ⟨.int ys.length,H,I.tok _,⟨s.toks+1,by rw[List.size_toArray,hlen]⟩,q⟩
 ·obtain ⟨its,r',pl,hz⟩:=I.tuple hq;have hlen:=r'.length;exact len_tuple pl (by simp only[List.size_toArray]<;>lia) ⟨.int ys.length,H,I.tok _,⟨s.toks+1,by rw[List.size_toArray,hlen]⟩,q⟩
theorem jL:A9 X (.type "list") (λxs H Q=>∃ p ys,xs=[.ref p]/\(SqL X.K H p ys∨SqT X.K H p ys)/\∀ l,H l=none->Q (.ref l) (upd H l (.lst ys))):=by
 intro pins s σ H xs us Q I r h;obtain ⟨p,ys,rfl,hq,q⟩:=h;obtain ⟨u,rfl,rx⟩:=OC r;cases rx
 have fin:∀ (its:List Value),bH ys its->ys.length<=sizeLine->∀ (h':Heap) (c':Nat),(∀ b o',s.heap.get? b=some o'->h'.get? b=some o')->
   h'.get? s.heap.objs.size=some { cls:=.type "list",dict:=none,data:=.seq its.toArray c',slots:=#[] }->EP X pins σ Q (.ref s.heap.objs.size) { s with heap:=h' }:=λits r' hz h' c' kp e=>
  ⟨.ref s.heap.objs.size,_,I.laid (t':=s.toks) kp (Nat.le_refl _) (show c9 X.prog X.w _ h' _ (.lst ys) from ⟨hz,its,c',r',e⟩),rfl,q _ (I.hok.fresh (Nat.le_refl _))⟩
 rcases hq with hq|hq
 ·obtain ⟨its,r',pl,hz⟩:=I.list hq;have hlen:=r'.length;obtain ⟨o,ho,hc,n,hd⟩:=pl.isList;exact call_list_seq p (.inl rfl) ho hc hd (λh' c' kp e=>fin its r' hz h' c' kp e) (by simp only[List.size_toArray]<;>lia)
 ·obtain ⟨its,r',pl,hz⟩:=I.tuple hq;have hlen:=r'.length;obtain ⟨o,ho,hc,n,hd⟩:=pl;exact call_list_seq p (.inr rfl) ho hc hd (λh' c' kp e=>fin its r' hz h' c' kp e) (by simp only[List.size_toArray]<;>lia)
def tyV (K:PySem.W.Frag)(T:String)(x:V)(H:Hp):Prop:=match x with
 | .str _=>T = "str"
 | .int _=>T = "int"
 | .ref p=>(T = "list" /\ ∃ xs,SqL K H p xs)∨(T = "tuple" /\ ∃ o,K.lookup p=some o/\o.cls=.type "tuple" /\ o.dict=none)∨
   (T = "dict" /\ ((∃ kvs,H p=some (.dK kvs))∨∃ kvs,H p=some (.dT kvs)))∨(T = "set" /\ ∃ S n,H p=some (.set S n))
 | _=>False
theorem UP {pins:List (Addr×Obj)}{σ:St}{H:Hp}{s:Shared}{T:String}{x:V}{v:Value}(I:Inv X pins σ H s)(r:bP x v)(ty:tyV X.K T x H):
  s.TypeIs v T/\∀ a,v=.ref a->∃ ob,s.heap.get? a=some ob/\ob.dict=none:=by
 cases x with
 | str z=>
  obtain ⟨t,rfl⟩:=r;cases (show T = "str" from ty);exact ⟨typeIs_str s z t,λ_ e=>nomatch e⟩
 | int i=>
  obtain ⟨t,rfl⟩:=r;cases (show T = "int" from ty);exact ⟨typeIs_int s i t,λ_ e=>nomatch e⟩
 | ref p=>
  cases r
  rcases ty with ⟨rfl,xs,hq⟩|⟨rfl,o,hk,hc,hd⟩|⟨rfl,hk⟩|⟨rfl,S,n,hk⟩
  ·obtain ⟨its,_,pl,_⟩:=I.list hq;refine ⟨pl.isList.typeIs,λa e=>?_⟩;cases e;obtain ⟨o,n,e,c,hd,_⟩:=pl;exact ⟨o,e,hd⟩
  ·refine ⟨⟨o,I.kIn p o hk,hc⟩,λa e=>?_⟩;cases e;exact ⟨o,I.kIn _ o hk,hd⟩
  ·have z:∃ o,s.heap.get? p=some o/\o.ExactDict:=by
    rcases hk with ⟨kvs,hk⟩|⟨kvs,hk⟩
    ·obtain ⟨_,_,_,_,o,_,_,e,ex,_⟩:=I.hok p _ hk;exact ⟨o,e,ex⟩
    ·obtain ⟨_,_,_,_,o,_,_,e,ex,_⟩:=I.hok p _ hk;exact ⟨o,e,ex⟩
   obtain ⟨o,e,ex⟩:=z;refine ⟨⟨o,e,ex.1⟩,λa e2=>?_⟩;cases e2;exact ⟨o,e,ex.2.1⟩
  ·obtain ⟨o,_,_,_,e,ex,_⟩:=I.hok p _ hk;refine ⟨⟨o,e,ex.1⟩,λa e2=>?_⟩;cases e2;exact ⟨o,e,ex.2.1⟩
 | _=>exact False.elim ty
def WJ (K:PySem.W.Frag)(T:String)(r:V->List V->Hp->VK->Prop)(to:TE):TE:=λσ H Q=>to σ H λx H1=>tyV K T x H1/\r x [] H1 Q
def tBM (K:PySem.W.Frag)(T:String)(r:V->List V->Hp->VK->Prop)(to:TE)(t:TA):TE:=λσ H Q=>to σ H λx H1=>tyV K T x H1/\t σ H1 λxs H2=>r x xs H2 Q
variable {o e:Expr}{es:List Expr}{to:TE}{t:TA}{name:Str}{apos cpos:Pos}{T id:String}{r:V->List V->Hp->VK->Prop}
theorem iB (pa:PlainAttrs T)(slot:Slot T name id)(hty:typeOf (.builtin id)=pure (.type "method_descriptor"))(hm:MtR X id r)(ho:PE X o to)(ha:PA X (e::es) t)
  (hbase:attributeBase o name X.env (eval o X.env)=eval o X.env:=by rfl)
  (hfew:((backTo cpos (starEach (e::es) X.env)).all (λx=>!x.1)&&(backToKw cpos (keywordEach [] X.env)).all (λx=>x.1.isSome)
   && decide ((e::es).length+([]:List Keyword).length+(if ([]:List Keyword).isEmpty then 0 else 1)<30))=true:=by rfl)
  (hline:(apos.endLine==cpos.line)=true:=by rfl) (hs:starEach (e::es) X.env=(false,eval e X.env)::starEach es X.env:=by rfl) (hplain:(backTo cpos (starEach es X.env)).any (·.1)=false:=by rfl):
  PE X (.Call (.Attribute o name apos) (e::es) [] cpos) (tBM X.K T r to t):=by
 intro pins s σ H Q I h;refine wpAny_Call_method_late hbase hfew hline rfl (thn (ho pins s σ H _ I h) λv s1 ⟨x,H1,I1,r1,ty,q1⟩=>?_);obtain ⟨h1,h2⟩:=UP I1 r1 ty;refine ⟨T,id,pa,slot,hty,h1,h2,?_⟩;have hA:=ha cpos pins s1 σ H1 _ I1 q1;rw[hs] at hA ⊢;refine Calls.callWith_builtin (by show (false||(backTo cpos (starEach es X.env)).any (·.1))=false;rw[hplain]<;>rfl) (Calls.evalArgs_plain ?_);exact thn hA λus s2 ⟨vs,H2,I2,r2,q2⟩=>hm pins s2 σ H2 x vs v us Q I2 r1 r2 q2
end
end L2
namespace L2
open PySem PySem.Spec PyProof.Rows
def MtM (X:Cx)(id:String)(r:V->List V->Hp->VK->Prop):Prop:=
 ∀ (pins:List (Addr×Obj)) (s:Shared) (σ:St) (H:Hp) (x:V) (xs:List V) (v:Value) (us:List Value) (Q:VK),Inv X pins σ H s->bP x v->bH xs us->r x xs H Q->
  wpAny (model X.prog X.w) X.A (call (.builtin id) (v::us)) (EP X pins σ Q) X.xe s
theorem bH.one:∀ {x:V} {us:List Value},bH [x] us->∃ u,us=[u]/\bP x u
 | _,_,.cons r .nil=>⟨_,rfl,r⟩
theorem bH.rep {xs:List V}{us:List Value}(h:bH xs us):∀ k:Nat,bH (List.replicate k xs).flatten (List.replicate k us).flatten
 | 0=>.nil
 | k+1=>by
  rw[List.replicate_succ,List.replicate_succ,List.flatten_cons,List.flatten_cons];exact bH.append h (bH.rep h k)
theorem wJ (its:List Value):∀ (k:Nat) (acc:List Value),
  List.foldl (λx1 x2=>x1++x2) acc.toArray (List.replicate k its.toArray)=(acc++(List.replicate k its).flatten).toArray
 | 0,acc=>by simp
 | k+1,acc=>by
  have e:acc.toArray++its.toArray=(acc++its).toArray:=by simp
  have e2:(acc++its)++(List.replicate k its).flatten=acc++(List.replicate (k+1) its).flatten:=by
   rw[List.replicate_succ,List.flatten_cons,List.append_assoc]
  rw[← e2,← wJ its k (acc++its),← e,List.replicate_succ,List.foldl_cons]
section
variable {X:Cx}{pins:List (Addr×Obj)}{σ:St}{H:Hp}{s:Shared}{l b:Addr}{xs ys zs:List V}
theorem Inv.lset {its its':List Value}{n:Nat}{f:Array Value->Array Value}{t':Nat}(I:Inv X pins σ H s)(hH:H l=some (.lst xs))
  (e:s.heap.get? l=some { cls:=.type "list",data:=.seq its.toArray n }) (hf:f its.toArray=its'.toArray) (hv:bH ys its') (hz:ys.length<=sizeLine):
  Inv X pins σ (upd H l (.lst ys)) { s with heap:=s.heap.update l (Obj.mapSeq f),toks:=t' }:=by
 have q:=PySem.IsL.update e f;rw[hf] at q;refine I.write (x:=l) (e:=l) (by rw[hH];exact trivial) (.inl rfl) (λb' u hb hu=>(Heap.get?_update_other s.heap (Obj.mapSeq f) (Ne.symm hb)).trans hu) ⟨_,q⟩ ?_;exact ⟨hz,its',_,hv,q⟩
theorem Inv.lnew {its:List Value}{t':Nat}(I:Inv X pins σ H s)(hv:bH ys its)(hz:ys.length<=sizeLine):
  Inv X pins σ (upd H s.heap.objs.size (.lst ys)) { s with heap:=s.heap.push { cls:=.type "list",data:=.seq its.toArray },toks:=t' }:=
 I.laid (λ_ _ q=>Heap.get?_push_of_some _ q) (Nat.le_refl _) ⟨hz,its,0,hv,Heap.get?_push_size _ rfl⟩
theorem Inv.fresh (I:Inv X pins σ H s):H s.heap.objs.size=none:=I.hok.fresh (Nat.le_refl _)
theorem Inv.lstM (I:Inv X pins σ H s)(hH:H l=some (.lst xs)):xs.length<=sizeLine/\∃ (its:List Value) (n:Nat),bH xs its/\xs.length=its.length/\s.heap.get? l=some { cls:=.type "list",data:=.seq its.toArray n }:=by
 obtain ⟨z,its,n,r,e⟩:=I.hok l _ hH;exact ⟨z,its,n,r,r.length,e⟩
theorem B9 {n:Nat}(h:n<=sizeLine):Builtin.List.listTooLong n=false:=by
 unfold Builtin.List.listTooLong;exact decide_eq_false (by lia)
end
section
variable {X:Cx}
inductive yW (x:V) (vs:List V) (H:Hp) (Q:VK):Prop
 | mk:∀ l xs y,x=.ref l->vs=[y]->H l=some (.lst xs)->xs.length<sizeLine->Q .non (upd H l (.lst (xs++[y])))->yW x vs H Q
theorem xF  {x:V} {vs:List V} {H:Hp} {Q:VK}:yW x vs H Q↔∃ l xs y,x=.ref l/\vs=[y]/\H l=some (.lst xs)/\xs.length<sizeLine/\Q .non (upd H l (.lst (xs++[y]))):=⟨λ⟨a0,a1,a2,a3,a4,a5,a6,a7⟩=>⟨a0,a1,a2,a3,a4,a5,a6,a7⟩,λ⟨a0,a1,a2,a3,a4,a5,a6,a7⟩=>⟨a0,a1,a2,a3,a4,a5,a6,a7⟩⟩
theorem dG:MtM X "list.append" yW:=by
 intro pins s σ H x vs v us Q I rx rv h;obtain ⟨l,xs,y,rfl,rfl,hH,hz,q⟩:=h;cases rx;obtain ⟨u,rfl,ru⟩:=rv.one;obtain ⟨z,its,n,r,hl,e⟩:=I.lstM hH;refine call_meets F.slot_list_append ⟨_,e,rfl⟩ F.entry_list_append (F.args_list_append_2 _ _) (PySem.list_append l its.toArray n u (by rw[List.size_toArray];lia)) ⟨e,?_⟩;refine ⟨.non,_,I.lset (its':=its++[u]) hH e (by simp) (r.append (.cons ru .nil)) ?_,rfl,q⟩;rw[List.length_append,List.length_singleton];lia
inductive GY (x:V) (vs:List V) (H:Hp) (Q:VK):Prop
 | mk:∀ l b xs zs,x=.ref l->vs=[.ref b]->H l=some (.lst xs)->H b=some (.lst zs)->xs.length+zs.length<=sizeLine->Q .non (upd H l (.lst (xs++zs)))->GY x vs H Q
theorem mC:MtM X "list.extend" GY:=by
 intro pins s σ H x vs v us Q I rx rv h;obtain ⟨l,b,xs,zs,rfl,rfl,hH,hB,hz,q⟩:=h;cases rx;obtain ⟨u,rfl,ru⟩:=rv.one;cases ru;obtain ⟨z,its,n,r,hl,e⟩:=I.lstM hH;obtain ⟨z2,its2,n2,r2,hl2,e2⟩:=I.lstM hB;have hsz:its.toArray.size+its2.toArray.size<=sizeLine:=by rw[List.size_toArray,List.size_toArray];lia
 have hlong:¬ (!its.toArray.isEmpty&&Builtin.List.listTooLong (its.toArray.size+its2.toArray.size))=true:=by
  rw[B9 hsz,Bool.and_false];exact Bool.false_ne_true
 refine call_meets F.slot_list_extend ⟨_,e,rfl⟩ F.entry_list_extend (F.args_list_extend_2 _ _)
  (AutoSeq1.list_extend_list_list_0 l its.toArray n b its2.toArray n2 hlong (by rw[List.size_toArray];lia) (by lia)) ⟨e,e2,?_⟩
 refine ⟨.non,_,I.lset (its':=its++its2) hH e (by simp) (r.append r2) ?_,rfl,q⟩;rw[List.length_append];lia
inductive W0 (x y:V) (H:Hp) (Q:VK):Prop
 | mk:∀ l b xs zs,x=.ref l->y=.ref b->H l=some (.lst xs)->H b=some (.lst zs)->xs.length+zs.length<=sizeLine->(∀ p,H p=none->Q (.ref p) (upd H p (.lst (xs++zs))))->W0 x y H Q
theorem qZ:OpR X (binaryOp .Add) W0:=by
 intro pins s σ H x y v u Q I rx ry h;obtain ⟨l,b,xs,zs,rfl,rfl,hH,hB,hz,q⟩:=h;cases rx;cases ry;obtain ⟨z,its,n,r,hl,e⟩:=I.lstM hH;obtain ⟨z2,its2,n2,r2,hl2,e2⟩:=I.lstM hB;refine PySem.P.add_list e e2 ?_ (by rw[List.size_toArray,List.size_toArray];lia);have ea:its.toArray++its2.toArray=(its++its2).toArray:=by simp
 rw[ea];exact ⟨.ref _,_,I.lnew (t':=s.toks) (r.append r2) (by rw[List.length_append];lia),rfl,q _ I.fresh⟩
inductive W4 (x y:V) (H:Hp) (Q:VK):Prop
 | mk:∀ l k xs,x=.ref l->y=.int k->H l=some (.lst xs)->-(2^63)<=k->k<2^63->xs.length*k.toNat<=sizeLine->(∀ p,H p=none->Q (.ref p) (upd H p (.lst (List.replicate k.toNat xs).flatten)))->W4 x y H Q
theorem P1 {α:Type}(xs:List α)(k:Nat):(List.replicate k xs).flatten.length=k*xs.length:=by
 induction k with
 | zero=>simp
 | succ k ih=>rw[List.replicate_succ,List.flatten_cons,List.length_append,ih,Nat.succ_mul,Nat.add_comm]
theorem MK:OpR X (binaryOp .Mult) W4:=by
 intro pins s σ H x y v u Q I rx ry h;obtain ⟨l,k,xs,rfl,rfl,hH,h1,h2,hz,q⟩:=h;cases rx;obtain ⟨t,rfl⟩:=ry;obtain ⟨z,its,n,r,hl,e⟩:=I.lstM hH;have hlen:its.toArray.size*k.toNat<=sizeLine:=by rw[List.size_toArray,← hl];exact hz
 have hcap:¬ its.toArray.size*k.toNat > (2^63-1) / 8:=by
  have:(sizeLine:Nat)<=(2^63-1) / 8:=by decide
  lia
 have hfit:¬ (!Builtin.List.listFitsIndex k)=true:=by
  rw[fitsIndex_both h1 h2];exact Bool.false_ne_true
 have hlong:¬ Builtin.List.listTooLong (its.toArray.size*k.toNat)=true:=by
  rw[B9 hlen];exact Bool.false_ne_true
 have hnew:List.foldl (λx1 x2=>x1++x2) #[] (List.replicate (if its.toArray.isEmpty=true then 0 else k.toNat) its.toArray)=(List.replicate k.toNat its).flatten.toArray:=by
  have f0:∀ m:Nat,List.foldl (λx1 x2=>x1++x2) #[] (List.replicate m its.toArray)=(List.replicate m its).flatten.toArray:=λm=>by
   have:=wJ its m []
   rw[List.nil_append] at this;exact this
  rw[f0]
  cases its with
  | nil=>simp
  | cons a r'=>rw[if_neg (by simp)]
 refine wpAny_binaryOp_repeat_ref (T := "list") (U := "int") (by decide) ⟨_,e,rfl⟩ (λs'=>typeIs_int s' k t) noFill_list_mul F.fills_int_mul F.slot_int_rmul repeat_list F.slot_int_index.lookup
  (call_meets F.slot_int_rmul (typeIs_int s k t) F.entry_int_rmul (F.args_int_rmul_2 _ _) (int___rmul___int_list k t l its.toArray n)
   ⟨e,rfl,⟨_,e,rfl⟩,call_meets F.slot_list_mul ⟨_,e,rfl⟩ F.entry_list_mul (F.args_list_mul_2 _ _) (AutoListH.list___mul___list_int_3 l its.toArray n k t hfit hcap hlong) ⟨e,?_⟩⟩)
 rw[hnew];exact ⟨.ref _,_,I.lnew (t':=s.toks) (r.rep k.toNat) (by rw[P1,Nat.mul_comm];exact hz),rfl,q _ I.fresh⟩
end
section
variable {prog:Program}{w:World}{A:Around}{E:Value->Shared->Prop}{s:Shared}
set_option maxRecDepth 100000 in
end
end L2
namespace L2
open PySem PySem.Spec PyProof.Rows
mutual
inductive Dp (K:PySem.W.Frag) (H:Hp):V->PyData->Prop
 | non:Dp K H .non .none
 | bl (b:Bool):Dp K H (.bl b) (.bool b)
 | int (i:Int):Dp K H (.int i) (.int i)
 | str (x:Str):Dp K H (.str x) (.str x)
 | lst {a:Addr} {xs:List V} {ds:List PyData}:SqL K H a xs->wA K H xs ds->Dp K H (.ref a) (.list ds)
 | tup {a:Addr} {xs:List V} {ds:List PyData}:SqT K H a xs->wA K H xs ds->Dp K H (.ref a) (.tuple ds)
inductive wA (K:PySem.W.Frag) (H:Hp):List V->List PyData->Prop
 | nil:wA K H [] []
 | cons {v:V} {vs:List V} {d:PyData} {ds:List PyData}:Dp K H v d->wA K H vs ds->wA K H (v::vs) (d::ds)
end
section
variable {X:Cx}{pins:List (Addr×Obj)}{σ:St}{H:Hp}{s:Shared}
mutual
theorem Dp.reads (I:Inv X pins σ H s):∀ (d:PyData) (v:V) (u:Value),Dp X.K H v d->bP v u->∃ as,Reads s.heap u d as
 | .none,_,_,h,r=>by
  cases h;cases r;exact ⟨_,Reads.none⟩
 | .bool b,_,_,h,r=>by
  cases h;cases r;exact ⟨_,Reads.bool b⟩
 | .int i,_,_,h,r=>by
  cases h;obtain ⟨t,rfl⟩:=r;exact ⟨_,Reads.int i t⟩
 | .str x,_,_,h,r=>by
  cases h;obtain ⟨t,rfl⟩:=r;exact ⟨_,Reads.str x t⟩
 | .list ds,_,_,h,r=>by
  cases h with
  | lst hs ha=>
   cases r;obtain ⟨its,rv,⟨o,n,ho,hc,_,hd⟩,_⟩:=I.list hs;obtain ⟨as,hr⟩:=Dp.readsAll I ds _ its ha rv;exact ⟨_,Reads.list ho hc hd hr⟩
 | .tuple ds,_,_,h,r=>by
  cases h with
  | tup hs ha=>
   cases r;obtain ⟨its,rv,⟨o,ho,hc,n,hd⟩,_⟩:=I.tuple hs;obtain ⟨as,hr⟩:=Dp.readsAll I ds _ its ha rv;exact ⟨_,Reads.tuple ho hc hd hr⟩
 | .dict _,_,_,h,_=>by cases h
theorem Dp.readsAll (I:Inv X pins σ H s):∀ (ds:List PyData) (vs:List V) (us:List Value),wA X.K H vs ds->bH vs us->∃ as,ReadsAll s.heap us ds as
 | [],_,_,h,r=>by
  cases h;cases r;exact ⟨_,ReadsAll.nil⟩
 | d::ds,_,_,h,r=>by
  cases h with
  | cons h1 h2=>
   cases r with
   | cons r1 r2=>
    obtain ⟨as,q1⟩:=Dp.reads I d _ _ h1 r1;obtain ⟨bs,q2⟩:=Dp.readsAll I ds _ _ h2 r2;exact ⟨_,ReadsAll.cons q1 q2⟩
end
end
section
variable {X:Cx}
inductive W1 (K:PySem.W.Frag) (x y:V) (H:Hp) (Q:VK):Prop
 | mk:∀ d e,Dp K H x d->Dp K H y e->SeqAt.shaped d=true->SeqAt.shaped e=true->Q (.bl (PyData.eqv d e)) H->W1 K x y H Q
theorem r8 (hu:X.A.units+64<cLine):OpR X (compareOp .Eq) (W1 X.K):=by
 intro pins s σ H x y v u Q I rx ry h;obtain ⟨d,e,hd,he,sd,se,q⟩:=h;obtain ⟨as,r1⟩:=Dp.reads I d x v hd rx;obtain ⟨bs,r2⟩:=Dp.reads I e y u he ry;exact SeqAt.compareEq_shaped r1 r2 sd se hu ⟨.bl _,H,I,rfl,q⟩
end
end L2
namespace L2
open PySem PySem.Spec PyProof.Rows
abbrev K7 (h:Heap)(c:Addr)(v:Option Value):Prop:=h.IsCell c v
def relS (scope sc:Scope):Scope:=
 { scope with names:=scope.names.map λ(n,k)=>if (k==.free&&sc.kind==.function&&sc.names.lookup n==some .cell) then (n,.cell) else (n,k) }
def c8 (cells:List (Str×Addr)):List (Str×NameKind)->List (Str×Addr)->List (Str×Addr)
 | [],acc=>acc
 | (n,k)::r,acc=>if k==.free then c8 cells r ((n,(cells.lookup n).getD 0)::acc) else c8 cells r acc
theorem oV (env:Env)(f:Str×NameKind->List (Str×Addr)->Sem (ForInStep (List (Str×Addr))))
  (hf:∀ n k c,f (n,k) c=if k==.free then (do let a ← cellOf env n;pure (.yield ((n,a)::c))) else pure (.yield c)):
  ∀ (names:List (Str×NameKind)) (acc:List (Str×Addr)),(∀ y∈names,y.2=.free->∃ c,env.cells.lookup y.1=some c)->forIn names acc f=pure (c8 env.cells names acc)
 | [],acc,_=>by rw[List.forIn_nil];rfl
 | (n,k)::r,acc,h=>by
  rw[List.forIn_cons,hf];have ih:=λacc=>oV env f hf r acc λy hy=>h y (List.mem_cons_of_mem _ hy);unfold c8
  by_cases hk:(k==NameKind.free)=true
  ·rw[if_pos hk,if_pos hk];obtain ⟨c,hc⟩:=h (n,k) List.mem_cons_self (by simpa using hk);have e:cellOf env n=pure c:=by unfold cellOf;rw[hc]
   rw[e];have e2:(env.cells.lookup n).getD 0=c:=by rw[hc];rfl
   rw[e2];exact ih _
  ·rw[if_neg hk,if_neg hk];exact ih _
theorem DF {scope:Scope}{env:Env}(h:∀ y∈scope.names,y.2=.free->∃ c,env.cells.lookup y.1=some c):closureFor scope env=pure (c8 env.cells scope.names []):=by
 simp only[closureFor];rw[oV env _ (λn k c=>rfl) scope.names [] h];rfl
theorem n8 {α:Type}:∀ {l:List (Str×α)} {n:Str} {c:α},(n,c)∈l->∃ c',l.lookup n=some c'
 | (k,v)::r,n,c,h=>by
  rw[List.lookup_cons]
  cases hb:n==k with
  | true=>exact ⟨_,rfl⟩
  | false=>
   rcases List.mem_cons.mp h with e|h
   ·cases e;simp at hb
   ·exact n8 h
theorem i9 {cells:List (Str×Addr)}:∀ {names:List (Str×NameKind)} {acc:List (Str×Addr)} {n:Str} {c:Addr},(n,c)∈c8 cells names acc->(n,c)∈acc∨((n,.free)∈names/\c=(cells.lookup n).getD 0)
 | [],_,_,_,h=>.inl h
 | (m,k)::r,acc,n,c,h=>by
  unfold c8 at h;split at h
  ·rename_i hk;have hk:k=.free:=by simpa using hk
   rcases i9 h with h|⟨h1,h2⟩
   ·rcases List.mem_cons.mp h with e|h
    ·cases e;exact .inr ⟨hk▸List.mem_cons_self,rfl⟩
    ·exact .inl h
   ·exact .inr ⟨List.mem_cons_of_mem _ h1,h2⟩
  ·rcases i9 h with h|⟨h1,h2⟩
   ·exact .inl h
   ·exact .inr ⟨List.mem_cons_of_mem _ h1,h2⟩
theorem kS {cells:List (Str×Addr)}:∀ {names:List (Str×NameKind)} {acc:List (Str×Addr)} {p:Str×Addr},p∈acc->p∈c8 cells names acc
 | [],_,_,h=>h
 | (m,k)::r,acc,p,h=>by
  unfold c8
  split
  ·exact kS (List.mem_cons_of_mem _ h)
  ·exact kS h
theorem kT {cells:List (Str×Addr)}:∀ {names:List (Str×NameKind)} {acc:List (Str×Addr)} {n:Str},(n,.free)∈names->(n,(cells.lookup n).getD 0)∈c8 cells names acc
 | (m,k)::r,acc,n,h=>by
  unfold c8
  rcases List.mem_cons.mp h with e|h
  ·cases e;exact kS List.mem_cons_self
  ·split
   ·exact kT h
   ·exact kT h
theorem iN:∀ {names:List (Str×NameKind)} {h:Heap} {acc:List (Str×Addr)} {x:Str} {c:Addr},(x,c)∈cellsFrom h.objs.size names acc->
  (x,c)∈acc∨((x,.cell)∈names/\h.objs.size<=c/\K7 (pushCells h names) c none)
 | [],_,_,_,_,h=>.inl h
 | (n,k)::r,h,acc,x,c,hm=>by
  unfold cellsFrom at hm;unfold pushCells;split at hm
  ·rename_i hk;rw[if_pos hk];have hk:k=.cell:=by simpa using hk
   rw[← Heap.size_push h { cls:=.type "cell",data:=.cell none }] at hm
   rcases iN hm with hm|⟨h1,h2,h3⟩
   ·rcases List.mem_cons.mp hm with e|hm
    ·cases e;exact .inr ⟨hk▸List.mem_cons_self,Nat.le_refl _,_,pushCells_keeps r _ _ _ (Heap.get?_push_size _ rfl),rfl⟩
    ·exact .inl hm
   ·rw[Heap.size_push] at h2;exact .inr ⟨List.mem_cons_of_mem _ h1,Nat.le_of_succ_le h2,h3⟩
  ·rename_i hk;rw[if_neg hk]
   rcases iN hm with hm|⟨h1,h2,h3⟩
   ·exact .inl hm
   ·exact .inr ⟨List.mem_cons_of_mem _ h1,h2,h3⟩
theorem m5:∀ {names:List (Str×NameKind)} {n:Nat} {acc:List (Str×Addr)} {p:Str×Addr},p∈acc->p∈cellsFrom n names acc
 | [],_,_,_,h=>h
 | (m,k)::r,n,acc,p,h=>by
  unfold cellsFrom
  split
  ·exact m5 (List.mem_cons_of_mem _ h)
  ·exact m5 h
theorem qP:∀ {names:List (Str×NameKind)} {n:Nat} {acc:List (Str×Addr)} {x:Str},(x,.cell)∈names->∃ c,(x,c)∈cellsFrom n names acc
 | (m,k)::r,n,acc,x,h=>by
  unfold cellsFrom
  rcases List.mem_cons.mp h with e|h
  ·cases e;exact ⟨n,m5 List.mem_cons_self⟩
  ·split
   ·exact qP h
   ·exact qP h
theorem qQ:∀ {names:List (Str×NameKind)} {h:Heap} {acc:List (Str×Addr)} {x y:Str} {c:Addr},(∀ p∈acc,p.2<h.objs.size)->(∀ x y c,(x,c)∈acc->(y,c)∈acc->x=y)->
  (x,c)∈cellsFrom h.objs.size names acc->(y,c)∈cellsFrom h.objs.size names acc->x=y
 | [],_,_,_,_,_,_,hi,h1,h2=>hi _ _ _ h1 h2
 | (n,k)::r,h,acc,x,y,c,hl,hi,h1,h2=>by
  unfold cellsFrom at h1 h2;split at h1
  ·rename_i hk;rw[if_pos hk] at h2;rw[← Heap.size_push h { cls:=.type "cell",data:=.cell none }] at h1 h2;refine qQ (h:=h.push _) (λp hp=>?_) (λx y c a b=>?_) h1 h2
   ·rw[Heap.size_push]
    rcases List.mem_cons.mp hp with rfl|hp
    ·exact Nat.lt_succ_self _
    ·exact Nat.lt_succ_of_lt (hl p hp)
   ·rcases List.mem_cons.mp a with e|a<;>rcases List.mem_cons.mp b with e'|b
    ·cases e;cases e';rfl
    ·cases e;exact absurd (hl _ b) (Nat.lt_irrefl _)
    ·cases e';exact absurd (hl _ a) (Nat.lt_irrefl _)
    ·exact hi _ _ _ a b
  ·rename_i hk;rw[if_neg hk] at h2;exact qQ hl hi h1 h2
theorem B8 {M:Model}{A:Around}{E:Value->Shared->Prop}{s:Shared}{scope:Scope}{globals:Addr}{closure:List (Str×Addr)}{qual:Str}{func:Option Addr}{code:Value}{around:Env}{builtins:Addr}{Q:Env->Shared->Prop}
  (h:Q (newEnv scope s.heap.objs.size globals (cellsFrom (s.heap.objs.size+1) scope.names closure) qual func code (some around) builtins)
   { s with heap:=pushCells (s.heap.push { cls:=.type "dict",data:=.dict #[] }) scope.names }):
  wpAny M A (newFunctionEnv scope globals closure [] qual func code (some around) builtins) Q E s:=by
 simp only[newFunctionEnv,Option.isSome_some,if_true];refine wpAny_bind (wpAny_alloc ?_);refine wpAny_bind (wpAny_layCells _ (λn k c=>rfl) scope.names closure _ _ ?_);rw[show ({ s with heap:=s.heap.push { cls:=.type "dict",data:=.dict #[] } }:Shared).heap.objs.size=s.heap.objs.size+1 from Heap.size_push ..];rw[List.forIn_nil];exact wpAny_bind (wpAny_pure (wpAny_pure h))
theorem l9 {sc:Scope}:∀ {names:List (Str×NameKind)} {x:Str} {k:NameKind},
  (names.map λ(n,k)=>if (k==NameKind.free&&sc.kind==.function&&sc.names.lookup n==some .cell) then (n,NameKind.cell) else (n,k)).lookup x=some k->
  ∃ k',names.lookup x=some k'/\(k=k'∨(k'=.free/\k=.cell))
 | [],_,_,h=>by simp at h
 | (n,k₀)::r,x,k,h=>by
  have ih:=@l9 sc r x k;have h':List.lookup x ((if (k₀==NameKind.free&&sc.kind==.function&&sc.names.lookup n==some .cell)=true then (n,NameKind.cell) else (n,k₀))::(r.map _))=some k:=h
  cases hx:x==n with
  | true=>
   simp only[List.lookup_cons,hx]
   by_cases hc:(k₀==NameKind.free&&sc.kind==.function&&sc.names.lookup n==some .cell)=true
   ·rw[if_pos hc] at h';simp only[List.lookup_cons,hx] at h';cases h';simp only[Bool.and_eq_true,beq_iff_eq] at hc;exact ⟨k₀,rfl,.inr ⟨hc.1.1,rfl⟩⟩
   ·rw[if_neg hc] at h';simp only[List.lookup_cons,hx] at h';cases h';exact ⟨_,rfl,.inl rfl⟩
  | false=>
   simp only[List.lookup_cons,hx]
   by_cases hc:(k₀==NameKind.free&&sc.kind==.function&&sc.names.lookup n==some .cell)=true
   ·rw[if_pos hc] at h';simp only[List.lookup_cons,hx] at h';exact ih h'
   ·rw[if_neg hc] at h';simp only[List.lookup_cons,hx] at h';exact ih h'
structure tD (N:List Str)(sc scope:Scope)(own:List (Str×Nat)):Prop where
 kind:scope.kind=.function
 uniq:∀ y∈scope.names,scope.names.lookup y.1=some y.2
 ix:∀ p∈own,N[p.2]?=some p.1
 free:∀ y∈scope.names,y.2=.free->sc.names.lookup y.1=some .cell∨sc.names.lookup y.1=some .free
 own:∀ y∈scope.names,y.2=.local∨y.2=.cell->y.1∈own.map (·.1)∨y.1∉N
def gL (σ:St):List Nat->St
 | []=>σ
 | v::vs=>(gL σ vs).set v none
theorem lW (σ:St):∀ vs:List Nat,(gL σ vs).length=σ.length
 | []=>rfl
 | v::vs=>by unfold gL;rw[List.length_set,lW σ vs]
theorem rX {σ:St}{i:Nat}{x:V}:∀ {vs:List Nat},(gL σ vs)[i]?=some (some x)->σ[i]?=some (some x)/\i∉vs
 | [],h=>⟨h,by simp⟩
 | v::vs,h=>by
  unfold gL at h
  by_cases hi:v=i
  ·subst hi
   by_cases hv:v<(gL σ vs).length
   ·rw[List.getElem?_set_self hv] at h;cases h
   ·rw[List.getElem?_eq_none (by simpa using hv)] at h;cases h
  ·rw[List.getElem?_set_ne hi] at h;obtain ⟨h1,h2⟩:=rX h;exact ⟨h1,by simp only[List.mem_cons,not_or];exact ⟨λe=>hi e.symm,h2⟩⟩
abbrev Cx.blk (X:Cx)(s:Shared)(H:Hp)(scope:Scope)(cenv:Env)(fp:List Addr):Cx:={ X with s_0:=s,H_0:=H,env:=cenv,outer:=X.stack,ex:=fp,fn:=λx=>scope.names.lookup x==some .cell,pn:=[],xe:=λ_ _=>False }
section
variable {X:Cx}{pins:List (Addr×Obj)}{σ:St}{H:Hp}{s:Shared}
theorem AH {scope:Scope}{own:List (Str×Nat)}{fp:List Addr}(I:Inv X pins σ H s)(ok:tD X.N X.env.scope scope own)(hN:X.N.Nodup)(hfp:∀ b∈fp,tF X pins H b/\b<s.heap.objs.size):
  Inv (X.blk s H scope (compEnvC scope (cellsFrom (s.heap.objs.size+1) scope.names (c8 X.env.cells scope.names [])) s.heap.objs.size X.env) fp) [] (gL σ (own.map (·.2))) H { s with heap:=pushCells (s.heap.push { cls:=.type "dict",data:=.dict #[] }) scope.names }:=by
 have hfree:∀ y∈scope.names,y.2=.free->∃ c,X.env.cells.lookup y.1=some c:=λy hy e=>by
  rcases ok.free y hy e with k|k
  ·exact I.ok.has _ (.inl k)
  ·exact I.ok.has _ (.inr k)
 generalize hcenv:compEnvC scope (cellsFrom (s.heap.objs.size+1) scope.names (c8 X.env.cells scope.names [])) s.heap.objs.size X.env=cenv;have kp:∀ b o,s.heap.get? b=some o->(pushCells (s.heap.push { cls:=.type "dict",data:=.dict #[] }) scope.names).get? b=some o:=λb o e=>pushCells_keeps _ _ _ _ (Heap.get?_push_of_some _ e);have hL:cenv.locals=s.heap.objs.size:=by rw[← hcenv];rfl
 have hcl:cenv.cells=cellsFrom (s.heap.objs.size+1) scope.names (c8 X.env.cells scope.names []):=by rw[← hcenv];rfl
 have hsc:cenv.scope=relS scope X.env.scope:=by rw[← hcenv];rfl
 rw[← Heap.size_push s.heap { cls:=.type "dict",data:=.dict #[] }] at hcl
 have cm:∀ {y c},(y,c)∈c8 X.env.cells scope.names []->X.env.cells.lookup y=some c/\c<s.heap.objs.size:=λ{y c} hm=>by
  rcases i9 hm with hm|⟨h1,rfl⟩
  ·cases hm
  ·obtain ⟨c,hc⟩:=hfree _ h1 rfl;rw[hc];obtain ⟨w,z⟩:=I.cell _ _ hc;exact ⟨rfl,z.lt⟩
 have mem:∀ {y c},cenv.cells.lookup y=some c->(X.env.cells.lookup y=some c/\c<s.heap.objs.size)∨(s.heap.objs.size+1<=c/\K7 (pushCells (s.heap.push { cls:=.type "dict",data:=.dict #[] }) scope.names) c none):=λ{y c} e=>by
  rw[hcl] at e
  rcases iN (PySem.mem_of_lookup e) with hm|⟨_,h2,h3⟩
  ·exact .inl (cm hm)
  ·rw[Heap.size_push] at h2;exact .inr ⟨h2,h3⟩
 have look:∀ {y},scope.names.lookup y=some .free->∃ c,cenv.cells.lookup y=some c/\X.env.cells.lookup y=some c:=λ{y} hl=>by
  have hy:(y,NameKind.free)∈scope.names:=PySem.mem_of_lookup hl;obtain ⟨c',e'⟩:=n8 (m5 (names:=scope.names) (n:=(s.heap.push { cls:=.type "dict",data:=.dict #[] }).objs.size) (kT (cells:=X.env.cells) (acc:=[]) hy));rw[← hcl] at e';refine ⟨c',e',?_⟩;rw[hcl] at e'
  rcases iN (PySem.mem_of_lookup e') with hm|⟨h1,_,_⟩
  ·exact (cm hm).1
  ·have:=ok.uniq _ h1
   rw[hl] at this;cases this
 have okB:(X.blk s H scope cenv fp).Ok:=by
  refine ⟨I.ok.mod,by show cenv.scope.kind=_;rw[hsc];exact ok.kind,by show cenv.globals=_;rw[← hcenv];exact I.ok.glob,by show cenv.builtins=_;rw[← hcenv];exact I.ok.blt,by show s.heap.objs.size<=cenv.locals;rw[hL];exact Nat.le_refl _,
   λy z c e1 e2=>?_,λy hy=>?_,λy c z e=>?_,I.ok.hd,I.ok.frames,.inl rfl,λb hb=>⟨?_,λy c e z=>?_⟩,I.bs,Nat.le_trans I.ok.bsz I.sz,λb o e hb=>?_,λb hb z=>?_,I.stack,I.stkFree⟩
  ·have e1:cenv.cells.lookup y=some c:=e1;have e2:cenv.cells.lookup z=some c:=e2;rw[hcl] at e1 e2;refine qQ (λp hp=>?_) (λy z c a b=>I.ok.inj y z c (cm a).1 (cm b).1) (PySem.mem_of_lookup e1) (PySem.mem_of_lookup e2);rw[Heap.size_push];exact Nat.lt_succ_of_lt (cm (y:=p.1) (c:=p.2) hp).2
  ·show ∃ c,cenv.cells.lookup y=some c
   have key:∀ k,cenv.kindOf y=some k->(k=.cell∨k=.free)->∃ c,cenv.cells.lookup y=some c:=λk hk hk'=>by
    unfold Env.kindOf at hk;rw[hsc] at hk;obtain ⟨k',e,r⟩:=l9 hk
    have:k'=.cell∨k'=.free:=by
     rcases r with rfl|⟨rfl,_⟩
     ·exact hk'
     ·exact .inr rfl
    rcases this with rfl|rfl
    ·obtain ⟨c,hm⟩:=qP (n:=(s.heap.push { cls:=.type "dict",data:=.dict #[] }).objs.size) (acc:=c8 X.env.cells scope.names []) (PySem.mem_of_lookup e);obtain ⟨c',e'⟩:=n8 hm;exact ⟨c',by rw[hcl];exact e'⟩
    ·obtain ⟨c,h1,_⟩:=look e;exact ⟨c,h1⟩
   rcases hy with hy|hy
   ·exact key _ hy (.inl rfl)
   ·exact key _ hy (.inr rfl)
  ·have z:(scope.names.lookup y==some NameKind.cell)=true:=z;have z:scope.names.lookup y=some .cell:=by simpa using z
   have e:cenv.cells.lookup y=some c:=e;rw[hcl] at e
   rcases iN (PySem.mem_of_lookup e) with hm|⟨_,h2,_⟩
   ·rcases i9 hm with hm|⟨h1,_⟩
    ·cases hm
    ·have q:=ok.uniq _ h1;rw[z] at q;cases q
   ·rw[Heap.size_push] at h2;exact Nat.le_of_succ_le h2
  ·show b≠cenv.locals;rw[hL];exact Nat.ne_of_lt (hfp b hb).2
  ·have e:cenv.cells.lookup y=some c:=e
   rcases mem e with ⟨h1,_⟩|⟨h1,_⟩
   ·exact (hfp b hb).1.2.2.2.2.1 y c h1 z
   ·have h2:s.heap.objs.size+1<=b:=by rw[← z];exact h1
    exact absurd (Nat.lt_of_lt_of_le (hfp b hb).2 (Nat.le_of_succ_le h2)) (Nat.lt_irrefl _)
  ·rcases (hfp b hb).1.2.2.2.1 with z|z
   ·exact I.ok.noex b o e z
   ·exact absurd (Nat.lt_of_lt_of_le (Heap.lt_size e) (Nat.le_trans I.ok.bsz z)) (Nat.lt_irrefl _)
  ·rcases List.mem_cons.mp (I.stkSub b z) with z|z
   ·exact (hfp b hb).1.2.1 z
   ·exact (hfp b hb).1.2.2.1 z
 refine ⟨okB,rfl,I.bare,Un.kept kp,⟨λ_=>none,?_,λi y av e1 e2 e3=>?_⟩,λy c e=>?_,?_,λy c e=>?_,λp hp=>?_,I.hok.kept kp,by rw[lW];exact I.len⟩
 ·show Heap.Ns _ cenv.locals _;rw[hL];exact Heap.Ns.keeps (Heap.Ns.new ..) λb o e=>pushCells_keeps _ _ _ _ e
 ·obtain ⟨e2,hne⟩:=rX e2
  have hfr:scope.names.lookup y=some .free/\(cenv.kindOf y=some .cell∨cenv.kindOf y=some .free):=by
   have key:∀ k,cenv.scope.names.lookup y=some k->k=.local∨k=.cell∨k=.free->scope.names.lookup y=some .free/\(cenv.kindOf y=some .cell∨cenv.kindOf y=some .free):=λk hk hk'=>by
    have hk0:=hk;rw[hsc] at hk;obtain ⟨k',e,r⟩:=l9 hk
    have no:¬ (k'=.local∨k'=.cell):=λhh=>by
     rcases ok.own _ (PySem.mem_of_lookup e) hh with e'|e'
     ·obtain ⟨p,hp,hpy⟩:=List.mem_map.mp e';have e3:=ok.ix p hp
      have:p.1=y:=hpy
      rw[this] at e3;exact hne (List.mem_map.mpr ⟨p,hp,uF hN e3 e1⟩)
     ·exact e' (List.mem_of_getElem? e1)
    rcases r with rfl|⟨rfl,rfl⟩
    ·rcases hk' with rfl|rfl|rfl
     ·exact absurd (.inl rfl) no
     ·exact absurd (.inr rfl) no
     ·exact ⟨e,.inr hk0⟩
    ·exact ⟨e,.inl hk0⟩
   have e3:Vis cenv.scope y:=e3
   rcases e3 with e3|e3|e3
   ·exact key _ e3 (.inl rfl)
   ·exact key _ e3 (.inr (.inl rfl))
   ·exact key _ e3 (.inr (.inr rfl))
  obtain ⟨m,hn,hl⟩:=I.loc;have hvis:Vis X.env.scope y:=(ok.free _ (PySem.mem_of_lookup hfr.1) rfl).elim (λk=>.inr (.inl k)) (λk=>.inr (.inr k));obtain ⟨w,r,q⟩:=hl i y av e1 e2 hvis;refine ⟨w,r,.inr ⟨hfr.2,?_⟩⟩;obtain ⟨c,h1,h2⟩:=look hfr.1
  rcases q with ⟨k,_⟩|⟨_,c',e',z⟩
  ·have k:X.env.scope.names.lookup y=some .local:=k
   rcases ok.free _ (PySem.mem_of_lookup hfr.1) rfl with k'|k'<;>rw[show X.env.scope.names.lookup y=_ from k'] at k<;>cases k
  ·rw[h2] at e';cases e';exact ⟨c,h1,z.keeps kp⟩
 ·have e:cenv.cells.lookup y=some c:=e
  rcases mem e with ⟨h1,_⟩|⟨_,z⟩
  ·obtain ⟨w,z⟩:=I.cell y c h1;exact ⟨w,z.keeps kp⟩
  ·exact ⟨_,z⟩
 ·show H cenv.locals=none;rw[hL];exact I.hok.fresh (Nat.le_refl _)
 ·have e:cenv.cells.lookup y=some c:=e
  rcases mem e with ⟨h1,_⟩|⟨h1,_⟩
  ·exact I.freeC y c h1
  ·exact I.hok.fresh (Nat.le_of_succ_le h1)
 ·exact absurd (show p∈([]:List (Addr×Obj))++[] from hp) (by simp)
theorem SD {E:Value->Shared->Prop}{D:Addr}{xs:List V}{y:V}{v:Value}{Q:Value->Shared->Prop}(I:Inv X pins σ H s)(hD:H D=some (.lst xs))(hz:xs.length<sizeLine)(r:bP y v)
  (h:∀ s',Inv X pins σ (upd H D (.lst (xs++[y]))) s'->Q .none s'):wpAny (model X.prog X.w) X.A (call (.builtin "list.append") [.ref D,v]) Q E s:=by
 obtain ⟨hz',its,n,ri,e⟩:=I.hok D _ hD;have hl:=ri.length;refine append_at (hsz:=by rw[List.size_toArray];lia) e λh' sb ho'=>?_;refine h { s with heap:=h' } (I.write (t':=s.toks) (by rw[hD];trivial) (.inl rfl) (λb u hb q=>(sb.2 b hb).trans q) ⟨_,ho'⟩ ⟨by rw[List.length_append];exact hz,its++[v],n+1,ri.append (.cons r .nil),?_⟩);rw[ho'];simp
def PTs (X:Cx)(ifs:List Expr)(t:TT):Prop:=
 ∀ (pins:List (Addr×Obj)) (s:Shared) (σ:St) (H:Hp) (Q:Bool->Hp->Prop),Inv X pins σ H s->t σ H Q->
  wpAny (model X.prog X.w) X.A (forIn ifs true λc r=>if r=true then do let ok ← isTrue c X.env (eval c X.env);pure (ForInStep.yield ok) else pure (ForInStep.yield r)) (TP X pins σ Q) X.xe s
def WO:TT:=λ_ H Q=>Q true H
theorem yU:PTs X [] WO:=λ_ _ _ H _ I h=>wpAny_tests_nil ⟨H,I,h⟩
theorem Q6 {c:Expr}{t:TT}(h:PT X c t):PTs X [c] t:=λpins s σ H Q I hw=>wpAny_tests_one (h pins s σ H Q I hw)
end
theorem K1 {α:Type}{t:Sem α}{Q Q':α->Shared->Prop}{M:Model}{A:Around}{E:Value->Shared->Prop}{s:Shared}(h:wpAny M A t Q (λ_ _=>False) s)(hQ:∀ a s,Q a s->Q' a s):wpAny M A t Q' E s:=wpAny_mono h hQ λ_ _ z=>False.elim z
theorem xX {prog:Program}{w:World}{A:Around}{R:Result->Shared->Prop}{s:Shared}{elt target iter:Expr}{ifs:List Expr}{scope:Scope}{pos:Pos}{it acc:Value}{env:Env}(I:Nat->Shared->Prop)
  (turn:∀ n s,I n s->wpAny (model prog w) A (pyNext it) (λr s₁=>match r with
   | none=>R (.ok .next) s₁
   | some v=>wpAny (model prog w) A (letOwnedTupleGo target it v) (λ_ s₁'=>wpAny (model prog w) A (assign target env v) (λ_ s₂=>
     wpAny (model prog w) A (forIn ifs true λc r=>if r=true then do let ok ← isTrue c env (eval c env);pure (ForInStep.yield ok) else pure (ForInStep.yield r)) (λok s₃=>
      if ok=true then wpAny (model prog w) A (eval elt env) (λx s₄=>
       wpAny (model prog w) A (call (.builtin "list.append") [acc,x]) (λ_ s₅=>∃ m,m<n/\I m s₅) (notedBy (model prog w) A env λe s'=>R (.error e) s') s₄) (notedBy (model prog w) A env λe s'=>R (.error e) s') s₃
      else ∃ m,m<n/\I m s₃) (notedBy (model prog w) A env λe s'=>R (.error e) s') s₂) (notedBy (model prog w) A env λe s'=>R (.error e) s') s₁') (notedBy (model prog w) A env λe s'=>R (.error e) s') s₁) (notedBy (model prog w) A env λe s'=>R (.error e) s') s)
  (n:Nat) (h:I n s):
  codeAny (model prog w) A (.compLoop (.ListComp elt [⟨target,iter,ifs,0⟩] scope pos) 0 it acc env) R s:=by
 refine codeAny_loop rfl I (λn s hI=>?_) n h;show wpAny _ A ((compTurn (.ListComp elt [⟨target,iter,ifs,0⟩] scope pos) 0 it acc env).onRaise (λx=>do noteFrame x env;theTreesLotGoes x)) _ _ s;refine wpAny_noted ?_;rw[compTurn_list];refine wpAny_bind (wpAny_standAt (wpAny_bind (wpAny_mono (turn n s hI) (λr s₁ h₁=>?_) λ_ _ h'=>h')))
 cases r with
 | none=>exact wpAny_pure h₁
 | some v=>
  refine wpAny_bind (wpAny_mono h₁ (λ_ s₁' h₁'=>?_) λ_ _ h'=>h');refine wpAny_bind (wpAny_mono h₁' (λ_ s₂ h₂=>wpAny_bind (wpAny_mono h₂ (λok s₃ h₃=>?_) λ_ _ h'=>h')) λ_ _ h'=>h')
  cases ok with
  | false=>exact wpAny_pure ⟨rfl,h₃⟩
  | true=>
   exact wpAny_bind (wpAny_bind (wpAny_mono h₃ (λx s₄ h₄=>wpAny_bind (wpAny_mono h₄ (λ_ s₅ h₅=>wpAny_pure (wpAny_pure ⟨rfl,h₅⟩)) λ_ _ h'=>h')) λ_ _ h'=>h'))
section
variable {X:Cx}
def tLc (wi:TI)(g:TG)(tt:TT)(te:TE)(vs:List Nat):TE:=λσ H Q=>wi σ H λJ H1=>∀ D,H1 D=none->∃ W:Nat->Nat->Hp->Prop,(∃ m,W 0 m (upd H1 D (.lst [])))/\∀ i m H,W i m H->
 (J.stop i H/\Q (.ref D) H)∨(J.go i H/\∃ Nx:Hp->Prop,(∀ H',Nx H'->∃ m',m'<m/\W (i+1) m' H')/\∀ x H',J.yld i H x H'->g x (gL σ vs) H' λσ2 H2=>gL σ2 vs=gL σ vs/\tt σ2 H2 λb H3=>
  if b=true then te σ2 H3 λy H4=>∃ acc,H4 D=some (.lst acc)/\acc.length<sizeLine/\Nx (upd H4 D (.lst (acc++[y]))) else Nx H3)
theorem P0 {pins:List (Addr×Obj)}{s:Shared}{σ:St}{H:Hp}{Q:VK}{elt tg iter:Expr}{ifs:List Expr}{scope:Scope}{own:List (Str×Nat)}{pos pos':Pos}{wi:TI}{g:TG}{tt:TT}{te:TE}{use:Option (Value->Sem Unit)}{Qf:Value->Shared->Prop}
  (hc:X.calm=true) (hN:X.N.Nodup) (I:Inv X pins σ H s) (hi:PI X tg iter wi) (ok:tD X.N X.env.scope scope own)
  (hg:∀ (s:Shared) (H:Hp) (C:Addr) (cl:List (Str×Addr)) (fp:List Addr),PG (X.blk s H scope (compEnvC scope cl C X.env) fp) tg g) (ht:∀ (s:Shared) (H:Hp) (C:Addr) (cl:List (Str×Addr)) (fp:List Addr),PTs (X.blk s H scope (compEnvC scope cl C X.env) fp) ifs tt)
  (he:∀ (s:Shared) (H:Hp) (C:Addr) (cl:List (Str×Addr)) (fp:List Addr),PE (X.blk s H scope (compEnvC scope cl C X.env) fp) elt te) (hs:∀ x,foldedSetIterable iter X.env x=pure x)
  (h:tLc wi g tt te (own.map (·.2)) σ H Q)
  (hRR:∀ D C s' m H',Inv X pins σ H' s'->Q (.ref D) H'->s'.heap.Ns C m->tF X pins H' C->compPost (model X.prog X.w) X.A X.xe use Qf (.ref D) C (.ok .next) s'):
  wpAny (model X.prog X.w) X.A (comprehension (.ListComp elt [⟨tg,iter,ifs,0⟩] scope pos) scope X.env pos' (newList []) false (eval iter X.env) use) Qf X.xe s:=by
 have hfree:∀ y∈scope.names,y.2=.free->∃ c,X.env.cells.lookup y.1=some c:=λy hy e=>by
  rcases ok.free y hy e with k|k
  ·exact I.ok.has _ (.inl k)
  ·exact I.ok.has _ (.inr k)
 refine wpAny_comprehension_free (use:=use) rfl hs (DF hfree) ok.kind (λy hy e=>by rw[ok.uniq y hy,e])
  (thn (hi pins s σ H _ I h) λxv s1 hx=>thn hx λitv s2 h2=>?_)
 obtain ⟨it,fp,tn,J,H2,e,I2,T,st2,f2,q⟩:=h2;subst e;refine wpAny_newObj_type (B8 ?_) (by show 0<=sizeLine;decide);generalize hD:s2.heap.objs.size=D;have hDn:H2 D=none:=I2.hok.fresh (Nat.le_of_eq hD);obtain ⟨W,⟨m0,w0⟩,turn⟩:=q D hDn;generalize hs3:({ s2 with heap:=s2.heap.push { cls:=.type "list",data:=.seq ([]:List Value).toArray } }:Shared)=s3
 have I3:Inv X pins σ (upd H2 D (.lst [])) s3:=by
  rw[← hs3];refine I2.laid (t':=s2.toks) (λb o e=>Heap.get?_push_of_some _ e) (Nat.le_of_eq hD) ⟨Nat.zero_le _,[],0,.nil,?_⟩;rw[← hD];exact Heap.get?_push_size _ rfl
 have h3:s3.heap=s2.heap.push { cls:=.type "list",data:=.seq ([]:List Value).toArray }:=by rw[← hs3]
 have sz:∀ b∈fp,b<s2.heap.objs.size:=λb hb=>by
  obtain ⟨o,e,_⟩:=T.obj _ _ st2 b hb;exact Heap.lt_size e
 have f3:∀ b∈fp,tF X pins (upd H2 D (.lst [])) b/\b<s3.heap.objs.size:=λb hb=>by
  have hlt:=sz b hb;refine ⟨⟨?_,(f2 b hb).2⟩,by rw[h3,Heap.size_push];exact Nat.lt_succ_of_lt hlt⟩;rw[aB (by rw[← hD];exact Nat.ne_of_lt hlt)];exact (f2 b hb).1
 have st3:tn 0 s3.heap:=T.keep _ _ _ st2 λb _ o e=>by rw[h3];exact Heap.get?_push_of_some _ e
 have I4:=AH I3 ok hN f3;have pg:=hg s3 (upd H2 D (.lst [])) s3.heap.objs.size (cellsFrom (s3.heap.objs.size+1) scope.names (c8 X.env.cells scope.names [])) fp;have pt:=ht s3 (upd H2 D (.lst [])) s3.heap.objs.size (cellsFrom (s3.heap.objs.size+1) scope.names (c8 X.env.cells scope.names [])) fp;have pe:=he s3 (upd H2 D (.lst [])) s3.heap.objs.size (cellsFrom (s3.heap.objs.size+1) scope.names (c8 X.env.cells scope.names [])) fp;show codeAny _ _ (.compStart (.ListComp elt [⟨tg,iter,ifs,0⟩] scope pos) 0 (.ref it) (.ref D) (compEnvC scope (cellsFrom (s3.heap.objs.size+1) scope.names (c8 X.env.cells scope.names [])) s3.heap.objs.size X.env)) (compPost (model X.prog X.w) X.A X.xe use Qf (.ref D) s3.heap.objs.size) { s3 with heap:=pushCells (s3.heap.push { cls:=.type "dict",data:=.dict #[] }) scope.names };have nfp:∀ b∈fp,(upd H2 D (.lst [])) b=none:=λb hb=>(f3 b hb).1.1;generalize hce:compEnvC scope (cellsFrom (s3.heap.objs.size+1) scope.names (c8 X.env.cells scope.names [])) s3.heap.objs.size X.env=ce at I4 pg pt pe ⊢;have cL:ce.locals=s3.heap.objs.size:=by subst hce;rfl
 generalize hH3:upd H2 D (.lst [])=H3 at I3 I4 pg pt pe w0 nfp f3;generalize hs4:({ s3 with heap:=pushCells (s3.heap.push { cls:=.type "dict",data:=.dict #[] }) scope.names }:Shared)=s4 at I4 ⊢;have st4:tn 0 s4.heap:=T.keep _ _ _ st3 λb _ o e=>by rw[← hs4];exact pushCells_keeps _ _ _ _ (Heap.get?_push_of_some _ e)
 have stat:∀ {σ':St} {H':Hp} {s':Shared},Inv (X.blk s3 H3 scope ce fp) [] σ' H' s'->(∀ b∈fp,H' b=none)->∀ b∈fp,tF (X.blk s3 H3 scope ce fp) [] H' b:=λ{σ' H' s'} I' hn b hb=>
  ⟨hn b hb,(I'.ok.exf b hb).1,I'.ok.exfs b hb,.inl hb,λx c e=>(I'.ok.exf b hb).2 x c e,λp hp=>absurd (show p∈([]:List (Addr×Obj))++[] from hp) (by simp)⟩
 have loop:codeAny (model X.prog X.w) X.A (.compLoop (.ListComp elt [⟨tg,iter,ifs,0⟩] scope pos) 0 (.ref it) (.ref D) ce) (compPost (model X.prog X.w) X.A X.xe use Qf (.ref D) s3.heap.objs.size) s4:=by
  refine xX (λn s'=>∃ i H',Inv (X.blk s3 H3 scope ce fp) [] (gL σ (own.map (·.2))) H' s'/\tn i s'.heap/\(∀ b∈fp,H' b=none)/\W i n H') ?_ m0 ⟨0,H3,I4,st4,nfp,w0⟩;rintro n s5 ⟨i,H5,I5,st5,n5,w5⟩
  rcases turn i n H5 w5 with ⟨stop,qq⟩|⟨go,Nx,hNx,step⟩
  ·have td:=T.done (X.blk s3 H3 scope ce fp) rfl rfl rfl hc i [] s5 _ H5 (λ_ _=>False) I5 (stat I5 n5) st5 stop;refine K1 td λr s6 ⟨hr,I6⟩=>?_;subst hr
   have I7:Inv X pins σ H5 s6:=I3.call' (ch:=fp) I6.os I6.base I6.hok I6.bare λb hb=>⟨(f3 b hb).1.2.2.2.1,(f3 b hb).1.2.1,(f3 b hb).1.2.2.2.2.1,(f3 b hb).1.2.2.2.2.2⟩
   have nC:H5 s3.heap.objs.size=none:=by
    have z:H5 ce.locals=none:=I6.free;rw[cL] at z;exact z
   obtain ⟨m,hn,_⟩:=I6.loc;have hn:s6.heap.Ns ce.locals m:=hn;rw[cL] at hn;exact hRR D s3.heap.objs.size s6 m H5 I7 qq hn (I3.fpOk (Nat.le_refl _) nC)
  ·have ti:=T.item (X.blk s3 H3 scope ce fp) rfl rfl rfl hc i [] s5 _ H5 (λ_ _=>False) I5 (stat I5 n5) st5 go;refine K1 ti λr s6 ⟨u,hr,h6⟩=>?_;subst hr;refine K1 h6 λ_ s7 ⟨x,H7,I7,r7,y7,st7,n7⟩=>?_;have I7':=I7.pinned (stat I7 n7) (T.obj _ _ st7);refine K1 (pg _ s7 _ H7 x u _ I7' r7 (step x H7 y7)) λ_ s8 ⟨σ8,H8,I8,hw8,q8⟩=>?_;refine K1 (pt _ s8 σ8 H8 _ I8 q8) λb s9 ⟨H9,I9,q9⟩=>?_
   have fin:∀ {s':Shared} {H':Hp},Inv (X.blk s3 H3 scope ce fp) ([]++uN fp s7.heap) σ8 H' s'->Nx H'->∃ m,m<n/\∃ i H',Inv (X.blk s3 H3 scope ce fp) [] (gL σ (own.map (·.2))) H' s'/\tn i s'.heap/\(∀ b∈fp,H' b=none)/\W i m H':=λ{s' H'} I' nx=>by
    obtain ⟨m',hm,w'⟩:=hNx H' nx
    have pin':∀ b∈fp,∀ o,s7.heap.get? b=some o->s'.heap.get? b=some o/\H' b=none:=λb hb o e=>
     let z:=I'.pin (b,o) (List.mem_append_right _ (List.mem_append_right _ (n9 hb e)))
     ⟨z.1,z.2.1⟩
    have hl:(gL σ (own.map (·.2))).length=σ8.length:=by rw[← hw8,lW]
    refine ⟨m',hm,i+1,H',(I'.unpinned (pins:=[])).weak hl (λj v e=>?_),T.keep _ _ _ st7 λb hb o e=>(pin' b hb o e).1,λb hb=>?_,w'⟩
    ·rw[← hw8] at e;exact (rX e).1
    ·obtain ⟨o,e,_⟩:=T.obj _ _ st7 b hb;exact (pin' b hb o e).2
   cases b with
   | false=>
    simp only[Bool.false_eq_true,if_false] at q9 ⊢;exact fin I9 q9
   | true=>
    simp only[if_true] at q9 ⊢;refine K1 (pe _ s9 σ8 H9 _ I9 q9) λz s10 ⟨yv,H10,I10,r10,acc,hD10,hz10,nx⟩=>?_;exact SD (X:=X.blk s3 H3 scope ce fp) I10 hD10 hz10 r10 λs11 I11=>fin I11 nx
 exact codeAny_compStart_list loop (T.self X.A 0 _ _ _ st4 loop)
theorem GQ {elt tg iter:Expr}{ifs:List Expr}{scope:Scope}{own:List (Str×Nat)}{pos:Pos}{wi:TI}{g:TG}{tt:TT}{te:TE}(hc:X.calm=true)(hN:X.N.Nodup)(hi:PI X tg iter wi)(ok:tD X.N X.env.scope scope own)
  (hg:∀ (s:Shared) (H:Hp) (C:Addr) (cl:List (Str×Addr)) (fp:List Addr),PG (X.blk s H scope (compEnvC scope cl C X.env) fp) tg g) (ht:∀ (s:Shared) (H:Hp) (C:Addr) (cl:List (Str×Addr)) (fp:List Addr),PTs (X.blk s H scope (compEnvC scope cl C X.env) fp) ifs tt)
  (he:∀ (s:Shared) (H:Hp) (C:Addr) (cl:List (Str×Addr)) (fp:List Addr),PE (X.blk s H scope (compEnvC scope cl C X.env) fp) elt te) (hs:∀ x,foldedSetIterable iter X.env x=pure x:=by intro _;rfl):
  PE X (.ListComp elt [⟨tg,iter,ifs,0⟩] scope pos) (tLc wi g tt te (own.map (·.2))):=by
 intro pins s σ H Q I h;rw[eval_ListComp]
 refine P0 hc hN I hi ok hg ht he hs h λD C s' m H' I' q hn f=>⟨m,hn,λh'' sb=>?_⟩
 obtain ⟨f0,f1,f2,f3,f4,f5⟩:=f;exact ⟨.ref D,H',I'.turned (t':=s'.toks) (λb o hb e=>(sb.2 b hb).trans e) f0 f1 f3 f4 f5,rfl,q⟩
end
theorem LN {lo:Int}{n:Nat}{g:TG}{tt:TT}{te:TE}{vs:List Nat}{σ:St}{H1:Hp}{D:Addr}{Qd:Hp->Prop}(Pv:Nat->Hp->Prop)(h0:Pv 0 (upd H1 D (.lst [])))
  (hs:∀ i H,i<n->Pv i H->g (.int (lo+i)) (gL σ vs) H λσ2 H2=>gL σ2 vs=gL σ vs/\tt σ2 H2 λb H3=>
   if b=true then te σ2 H3 λy H4=>∃ acc,H4 D=some (.lst acc)/\acc.length<sizeLine/\Pv (i+1) (upd H4 D (.lst (acc++[y]))) else Pv (i+1) H3) (hd:∀ H,Pv n H->Qd H):
  ∃ W:Nat->Nat->Hp->Prop,(∃ m,W 0 m (upd H1 D (.lst [])))/\∀ i m H,W i m H->
   ((Itr lo n).stop i H/\Qd H)∨((Itr lo n).go i H/\∃ Nx:Hp->Prop,(∀ H',Nx H'->∃ m',m'<m/\W (i+1) m' H')/\∀ x H',(Itr lo n).yld i H x H'->g x (gL σ vs) H' λσ2 H2=>gL σ2 vs=gL σ vs/\tt σ2 H2 λb H3=>
    if b=true then te σ2 H3 λy H4=>∃ acc,H4 D=some (.lst acc)/\acc.length<sizeLine/\Nx (upd H4 D (.lst (acc++[y]))) else Nx H3):=by
 refine ⟨λi m H=>m=n-i/\i<=n/\Pv i H,⟨n,by simp,Nat.zero_le _,h0⟩,?_⟩;rintro i m H ⟨rfl,hi,p⟩
 by_cases hlt:i<n
 ·refine .inr ⟨hlt,Pv (i+1),λH' p'=>⟨n-(i+1),by lia,rfl,hlt,p'⟩,λx H' y=>?_⟩;obtain ⟨e,y⟩:=y;subst e y;exact hs i _ hlt p
 ·have e:i=n:=by lia
  subst e;exact .inl ⟨Nat.le_refl _,hd H p⟩
theorem yE {K:PySem.W.Frag}{a:Addr}{xs:List V}{g:TG}{tt:TT}{te:TE}{vs:List Nat}{σ:St}{H1:Hp}{D:Addr}{Qd:Hp->Prop}(Pv:Nat->Hp->Prop)(h0:Pv 0 (upd H1 D (.lst [])))(hl:∀ i H,i<=xs.length->Pv i H->SqL K H a xs)
  (hs:∀ i x H,xs[i]?=some x->Pv i H->g x (gL σ vs) H λσ2 H2=>gL σ2 vs=gL σ vs/\tt σ2 H2 λb H3=>
   if b=true then te σ2 H3 λy H4=>∃ acc,H4 D=some (.lst acc)/\acc.length<sizeLine/\Pv (i+1) (upd H4 D (.lst (acc++[y]))) else Pv (i+1) H3) (hd:∀ H,Pv xs.length H->Qd H):
  ∃ W:Nat->Nat->Hp->Prop,(∃ m,W 0 m (upd H1 D (.lst [])))/\∀ i m H,W i m H->
   ((Itl K a).stop i H/\Qd H)∨((Itl K a).go i H/\∃ Nx:Hp->Prop,(∀ H',Nx H'->∃ m',m'<m/\W (i+1) m' H')/\∀ x H',(Itl K a).yld i H x H'->g x (gL σ vs) H' λσ2 H2=>gL σ2 vs=gL σ vs/\tt σ2 H2 λb H3=>
    if b=true then te σ2 H3 λy H4=>∃ acc,H4 D=some (.lst acc)/\acc.length<sizeLine/\Nx (upd H4 D (.lst (acc++[y]))) else Nx H3):=by
 refine ⟨λi m H=>m=xs.length-i/\i<=xs.length/\Pv i H,⟨xs.length,by simp,Nat.zero_le _,h0⟩,?_⟩;rintro i m H ⟨rfl,hi,p⟩;have q:=hl i H hi p
 by_cases hlt:i<xs.length
 ·refine .inr ⟨⟨xs,xs[i],q,by simp[hlt]⟩,Pv (i+1),λH' p'=>⟨xs.length-(i+1),by lia,rfl,hlt,p'⟩,λx H' y=>?_⟩;obtain ⟨e,y⟩:=y;subst e;exact hs i x _ (y xs q) p
 ·have e:i=xs.length:=by lia
  subst e;exact .inl ⟨⟨xs,q,Nat.le_refl _⟩,hd H p⟩
end L2
namespace L2
open PySem PySem.Spec PyProof.Rows
section
variable {κ:Type}[DecidableEq κ]
def dO (kvs:List (κ×V))(k:κ):Option V:=(kvs.find? λkv=>decide (kv.1=k)).map (·.2)
def jY (kvs:List (κ×V))(k:κ)(v:V):List (κ×V):=
 if (kvs.any λkv=>decide (kv.1=k))=true then kvs.map (λkv=>if kv.1=k then (kv.1,v) else kv) else kvs++[(k,v)]
theorem dF {p:κ×V}{r:List (κ×V)}{k:κ}(e:p.1=k):dO (p::r) k=some p.2:=by simp[dO,List.find?_cons,e]
theorem dE {p:κ×V}{r:List (κ×V)}{k:κ}(e:¬ p.1=k):dO (p::r) k=dO r k:=by simp[dO,List.find?_cons,e]
theorem qK (k:κ):∀ kvs:List (κ×V),(kvs.any λkv=>decide (kv.1=k))=(dO kvs k).isSome
 | []=>rfl
 | p::r=>by
  rw[List.any_cons]
  by_cases e:p.1=k
  ·simp only[dF e,decide_eq_true e,Bool.true_or,Option.isSome_some]
  ·rw[dE e,decide_eq_false e,Bool.false_or];exact qK k r
theorem CK (k j:κ)(y:V):∀ kvs:List (κ×V),dO (kvs.map λkv=>if kv.1=k then (kv.1,y) else kv) j=(dO kvs j).map λx=>if j=k then y else x
 | []=>rfl
 | p::r=>by
  have ih:=CK k j y r;rw[List.map_cons]
  by_cases h:p.1=k
  ·rw[if_pos h]
   by_cases e:p.1=j
   ·rw[dF (p:=(p.1,y)) e,dF e,Option.map_some,if_pos (e.symm.trans h)]
   ·rw[dE (p:=(p.1,y)) e,dE e,ih]
  ·rw[if_neg h]
   by_cases e:p.1=j
   ·rw[dF (p:=p) e,dF e,Option.map_some,if_neg (λz=>h (e.trans z))]
   ·rw[dE (p:=p) e,dE e,ih]
theorem xK (k j:κ)(y:V):∀ kvs:List (κ×V),dO kvs k=none->dO (kvs++[(k,y)]) j=if j=k then some y else dO kvs j
 | [],_=>by
  by_cases e:k=j
  ·rw[if_pos e.symm];exact dF (p:=(k,y)) e
  ·rw[if_neg (λz=>e z.symm)];exact dE (p:=(k,y)) e
 | p::r,hn=>by
  rw[List.cons_append];have hk:¬ p.1=k:=λz=>by rw[dF z] at hn;cases hn
  rw[dE hk] at hn;have ih:=xK k j y r hn
  by_cases e:p.1=j
  ·rw[dF e,dF e,if_neg (λz=>hk (e.trans z))]
  ·rw[dE e,dE e,ih]
theorem qL (kvs:List (κ×V))(k j:κ)(y:V):dO (jY kvs k y) j=if j=k then some y else dO kvs j:=by
 unfold jY
 by_cases a:(kvs.any λkv=>decide (kv.1=k))=true
 ·rw[if_pos a,CK];rw[qK] at a
  by_cases e:j=k
  ·obtain ⟨x,hx⟩:=Option.isSome_iff_exists.mp a;rw[if_pos e,e,hx,Option.map_some,if_pos rfl]
  ·rw[if_neg e]
   cases dO kvs j with
   | none=>rfl
   | some x=>rw[Option.map_some,if_neg e]
 ·rw[if_neg a];refine xK k j y kvs ?_;rw[qK] at a
  cases q:dO kvs k with
  | none=>rfl
  | some x=>rw[q] at a;exact (a rfl).elim
theorem fX (kvs:List (κ×V))(k:κ)(v:V):(jY kvs k v).length<=kvs.length+1:=by
 unfold jY
 split
 ·rw[List.length_map];lia
 ·rw[List.length_append,List.length_cons,List.length_nil];lia
theorem gM.isSome_eq {o:Option V}{u:Option Value}(r:gM o u):o.isSome=u.isSome:=by
 cases o with
 | none=>cases u with
  | none=>rfl
  | some _=>exact (show False from r).elim
 | some _=>cases u with
  | none=>exact (show False from r).elim
  | some _=>rfl
theorem KV.val {kvs:List (κ×V)}{vs:List (κ×Value)}(r:KV kvs vs)(k:κ):gM (dO kvs k) (valueAt vs k):=by
 unfold KV at r
 induction r with
 | nil=>exact True.intro
 | @cons p q ps qs h t ih=>
  obtain ⟨h1,h2⟩:=h
  by_cases e:p.1=k
  ·have e':q.1=k:=h1.symm.trans e;have b:valueAt (q::qs) k=some q.2:=by simp[valueAt,List.find?_cons,e']
   rw[dF e,b];exact h2
  ·have e':¬ q.1=k:=λz=>e (h1.trans z);have b:valueAt (q::qs) k=valueAt qs k:=by simp[valueAt,List.find?_cons,e']
   rw[dE e,b];exact ih
theorem KV.any {kvs:List (κ×V)}{vs:List (κ×Value)}(r:KV kvs vs)(k:κ):(kvs.any λkv=>decide (kv.1=k))=vs.any λkv=>decide (kv.1=k):=by
 unfold KV at r
 induction r with
 | nil=>rfl
 | cons h t ih=>rw[List.any_cons,List.any_cons,ih,h.1]
theorem KV.repl {kvs:List (κ×V)}{vs:List (κ×Value)}(r:KV kvs vs)(k:κ){y:V}{u:Value}(ry:bP y u):
  KV (kvs.map λkv=>if kv.1=k then (kv.1,y) else kv) (vs.map λkv=>if kv.1=k then (kv.1,u) else kv):=by
 unfold KV at r ⊢
 induction r with
 | nil=>exact .nil
 | @cons p q ps qs h t ih=>
  rw[List.map_cons,List.map_cons];refine .cons ?_ ih;obtain ⟨h1,h2⟩:=h
  by_cases e:p.1=k
  ·rw[if_pos e,if_pos (h1.symm.trans e)];exact ⟨h1,ry⟩
  ·rw[if_neg e,if_neg (λz=>e (h1.trans z))];exact ⟨h1,h2⟩
theorem KV.put {kvs:List (κ×V)}{vs:List (κ×Value)}(r:KV kvs vs)(k:κ){y:V}{u:Value}(ry:bP y u):KV (jY kvs k y) (stored vs k u):=by
 unfold jY stored;rw[r.any k]
 by_cases e:(vs.any λkv=>decide (kv.1=k))=true
 ·rw[if_pos e,if_pos e];exact r.repl k ry
 ·rw[if_neg e,if_neg e];exact Paired.snoc r ⟨rfl,ry⟩
theorem KV.length {kvs:List (κ×V)}{vs:List (κ×Value)}(r:KV kvs vs):kvs.length=vs.length:=Paired.length r
end
theorem wS {P:Program}{w:World}{k:Key}{u:Value}(r:bP (kV k) u):(cM P w).is k u=true:=by
 cases k with
 | inl i=>obtain ⟨t,e⟩:=(show ∃ t,u=Value.int i t from r);subst e;exact B6 P w i t
 | inr x=>obtain ⟨t,e⟩:=(show ∃ t,u=Value.str x t from r);subst e;exact B7 P w x t
theorem qU {P:Program}{w:World}:∀ {ks:List Key} {us:List Value},bH (ks.map kV) us->ItemsAre (cM P w) ks us
 | [],_,r=>by rw[List.map_nil] at r;cases r;exact .nil
 | k::ks,_,r=>by
  rw[List.map_cons] at r
  cases r with
  | cons h t=>exact .cons (wS h) (qU t)
abbrev KT (H:Hp):List (List Key×V)->List (List Key×Addr×Value)->Prop:=Paired λp q=>p.1=q.1/\H q.2.1=some (.tup (p.1.map kV))/\bP p.2 q.2.2
theorem KT.val {H:Hp}{kvs:List (List Key×V)}{xs:List (List Key×Addr×Value)}(r:KT H kvs xs)(k:List Key):gM (dO kvs k) ((atKey xs k).map (·.2)):=by
 induction r with
 | nil=>exact True.intro
 | @cons p q ps qs h t ih=>
  obtain ⟨h1,_,h2⟩:=h
  by_cases e:p.1=k
  ·have e':q.1=k:=h1.symm.trans e;have b:atKey (q::qs) k=some q.2:=by simp[atKey,List.find?_cons,e']
   rw[dF e,b];exact h2
  ·have e':¬ q.1=k:=λz=>e (h1.trans z);have b:atKey (q::qs) k=atKey qs k:=by simp[atKey,List.find?_cons,e']
   rw[dE e,b];exact ih
theorem KT.repl {H:Hp}{kvs:List (List Key×V)}{xs:List (List Key×Addr×Value)}(r:KT H kvs xs)(k:List Key){y:V}{u:Value}(ry:bP y u):
  KT H (kvs.map λkv=>if kv.1=k then (kv.1,y) else kv) (xs.map (putAt k u)):=by
 induction r with
 | nil=>exact .nil
 | @cons p q ps qs h t ih=>
  rw[List.map_cons,List.map_cons];refine .cons ?_ ih;obtain ⟨h1,h2,h3⟩:=h;unfold putAt
  by_cases e:p.1=k
  ·rw[if_pos e,if_pos (h1.symm.trans e)];exact ⟨h1,h2,ry⟩
  ·rw[if_neg e,if_neg (λz=>e (h1.trans z))];exact ⟨h1,h2,h3⟩
theorem KT.put {H:Hp}{kvs:List (List Key×V)}{xs:List (List Key×Addr×Value)}(r:KT H kvs xs)(k:List Key){b:Addr}{y:V}{u:Value}(hb:H b=some (.tup (k.map kV)))(ry:bP y u):
  KT H (jY kvs k y) (storedH xs k b u):=by
 have e:(kvs.any λkv=>decide (kv.1=k))=(atKey xs k).isSome:=by
  rw[qK,(r.val k).isSome_eq,Option.isSome_map]
 unfold jY storedH;rw[e]
 by_cases q:(atKey xs k).isSome=true
 ·rw[if_pos q,if_pos q];exact r.repl k ry
 ·rw[if_neg q,if_neg q];exact Paired.snoc r ⟨rfl,hb,ry⟩
theorem KT.keeps {H H':Hp}{kvs:List (List Key×V)}{xs:List (List Key×Addr×Value)}(r:KT H kvs xs)(ht:∀ b ys,H b=some (.tup ys)->H' b=some (.tup ys)):KT H' kvs xs:=
 Paired.mapP r λ_ _ z=>⟨z.1,ht _ _ z.2.1,z.2.2⟩
section
variable {P:Program}{w:World}{H:Hp}{h:Heap}{a:Addr}
theorem RR {u:HO}(ok:HOk P w H h)(e:Rd H a u):c9 P w H h a u:=e.ok ok
theorem FP {kvs:List (Key×V)}(ok:HOk P w H h)(e:Rd H a (.dK kvs)):kvs.length<=sizeLine/\(a==sysModules)=false/\∃ vs,KV kvs vs/\h.DictOf (cM P w) a vs:=
 show c9 P w H h a (.dK kvs) from RR ok e
theorem VA {kvs:List (Key×V)}(ok:HOk P w H h)(e:H a=some (.dK kvs)):kvs.length<=sizeLine/\(a==sysModules)=false/\∃ vs,KV kvs vs/\h.DictOf (cM P w) a vs:=FP ok (.inl e)
theorem u9 {ks:List Key}(ok:HOk P w H h)(e:H a=some (.tup (ks.map kV))):(tupleKind (cM P w)).is h ks a:=by
 obtain ⟨_,its,r,o,h1,h2,n,h3⟩:=(show c9 P w H h a (.tup (ks.map kV)) from ok a _ e)
 exact ⟨o,its.toArray,n,h1,h2,h3,by simpa using qU r⟩
theorem tT {kvs:List (List Key×V)}(ok:HOk P w H h)(e:Rd H a (.dT kvs)):kvs.length<=sizeLine/\(a==sysModules)=false/\
  ∃ xs,KT H kvs xs/\h.DictOfH (tupleKind (cM P w)) a xs:=by
 obtain ⟨z,y,xs,r,o,es,ep,h1,h2,h3,h4,h5⟩:=(show c9 P w H h a (.dT kvs) from RR ok e)
 refine ⟨z,y,xs,r,o,es,ep,h1,h2,h3,h4,λx hx=>?_,h5⟩
 have all:∀ {l:List (List Key×V)} {m:List (List Key×Addr×Value)},KT H l m->∀ x∈m,(tupleKind (cM P w)).is h x.1 x.2.1:=by
  intro l m q
  induction q with
  | nil=>intro x hx;exact nomatch hx
  | @cons p q ps qs hq t ih=>
   intro x hx
   rcases List.mem_cons.mp hx with e|hx
   ·subst e;exact u9 ok (by rw[← hq.1];exact hq.2.1)
   ·exact ih x hx
 exact all r x hx
theorem VB {kvs:List (List Key×V)}(ok:HOk P w H h)(e:H a=some (.dT kvs)):kvs.length<=sizeLine/\(a==sysModules)=false/\
  ∃ xs,KT H kvs xs/\h.DictOfH (tupleKind (cM P w)) a xs:=tT ok (.inl e)
end
def AB (H:Hp)(a:Addr)(y:V)(r:Option V):Prop:=
 (∃ kvs k,Rd H a (.dK kvs)/\y=kV k/\r=dO kvs k)∨∃ kvs k b,Rd H a (.dT kvs)/\y=.ref b/\H b=some (.tup (k.map kV))/\r=dO kvs k
def xN (H:Hp)(a:Addr)(y v:V)(H':Hp):Prop:=
 (∃ kvs k,H a=some (.dK kvs)/\y=kV k/\kvs.length<sizeLine/\H'=upd H a (.dK (jY kvs k v)))∨
 ∃ kvs k b,H a=some (.dT kvs)/\y=.ref b/\H b=some (.tup (k.map kV))/\kvs.length<sizeLine/\H'=upd H a (.dT (jY kvs k v))
theorem AB.k {H:Hp}{a:Addr}{kvs:List (Key×V)}{k:Key}(e:H a=some (.dK kvs)):AB H a (kV k) (dO kvs k):=.inl ⟨kvs,k,.inl e,rfl,rfl⟩
theorem xN.k {H:Hp}{a:Addr}{kvs:List (Key×V)}{k:Key}{v:V}(e:H a=some (.dK kvs))(hl:kvs.length<sizeLine):xN H a (kV k) v (upd H a (.dK (jY kvs k v))):=.inl ⟨kvs,k,e,rfl,hl,rfl⟩
theorem xN.t {H:Hp}{a b:Addr}{kvs:List (List Key×V)}{k:List Key}{v:V}(e:H a=some (.dT kvs))(eb:H b=some (.tup (k.map kV)))(hl:kvs.length<sizeLine):
  xN H a (.ref b) v (upd H a (.dT (jY kvs k v))):=.inr ⟨kvs,k,b,e,rfl,eb,hl,rfl⟩
section
variable {X:Cx}{pins:List (Addr×Obj)}{σ:St}{H:Hp}{s:Shared}{a:Addr}{y v:V}{u r:Value}{o:Option V}{A:Around}{E:Value->Shared->Prop}
theorem Inv.big (I:Inv X pins σ H s):sysModules<s.heap.objs.size:=by
 have h:mainGlobals<s.heap.objs.size:=(I.mod.glob.keeps I.bk).lt;exact Nat.lt_trans (by decide) h
theorem IJ {Q:Value->Shared->Prop}(hu:A.units+1<cLine)(I:Inv X pins σ H s)(g:AB H a y (some v))(ry:bP y u)(h:∀ w' s',Inv X pins σ H s'->bP v w'->Q w' s'):
  wpAny (model X.prog X.w) A (getItem (.ref a) u) Q E s:=by
 rcases g with ⟨kvs,k,e,ey,l⟩|⟨kvs,k,b,e,ey,eb,l⟩
 ·subst ey;obtain ⟨z,hd,vs,rel,dd⟩:=FP I.hok e;obtain ⟨w',hw,rw'⟩:=gM.some_of (v:=v) (o:=valueAt vs k) (by rw[l];exact rel.val k);exact wpAny_getItem_of (wS ry) dd.mapOf hw (h w' _ (I.tok _) rw')
 ·subst ey;cases (show u=Value.ref b from ry);obtain ⟨z,hd,xs,rel,dd⟩:=tT I.hok e;obtain ⟨w',hw,rw'⟩:=gM.some_of (v:=v) (o:=(atKey xs k).map (·.2)) (by rw[l];exact rel.val k);obtain ⟨p,hp,hp2⟩:=Option.map_eq_some_iff.mp hw;refine wpAny_getItem_heap (tupleKind_room_in1 hu) (u9 I.hok eb) dd hp ?_;rw[hp2];exact h w' _ (I.tok _) rw'
theorem OT {Q:Value->Shared->Prop}(hu:A.units+1<cLine)(I:Inv X pins σ H s)(g:AB H a y o)(ry:bP y u)(h:∀ s',Inv X pins σ H s'->Q (.bool (!o.isSome)) s'):
  wpAny (model X.prog X.w) A (compareOp .NotIn u (.ref a)) Q E s:=by
 rcases g with ⟨kvs,k,e,ey,l⟩|⟨kvs,k,b,e,ey,eb,l⟩
 ·subst ey;obtain ⟨z,hd,vs,rel,dd⟩:=FP I.hok e;refine wpAny_notIn_of (wS ry) hd dd.mapOf ?_;rw[← (rel.val k).isSome_eq,← l];exact h _ (I.tok _)
 ·subst ey;cases (show u=Value.ref b from ry);obtain ⟨z,hd,xs,rel,dd⟩:=tT I.hok e;refine wpAny_notIn_heap (tupleKind_room_in1 hu) (u9 I.hok eb) hd dd ?_;have q:=(rel.val k).isSome_eq;rw[Option.isSome_map] at q;rw[← q,← l];exact h _ (I.tok _)
theorem FK {h':Heap}{t':Nat}{ob:HO}(I:Inv X pins σ H s)(mu:Mut (H a))(hs:Heap.SameBut a s.heap h')(he:∃ q,h'.get? a=some q)(new:c9 X.prog X.w (upd H a ob) h' a ob):
  Inv X pins σ (upd H a ob) { s with heap:=h',toks:=t' }:=
 I.write (x:=a) (e:=a) mu (.inl rfl) (λb q hb z=>(hs.2 b hb).trans z) he new
theorem SH {P:Program}{w:World}{H':Hp}{h':Heap}{kvs:List (Key×V)}{vs:List (Key×Value)}(z:kvs.length<=sizeLine)(hd:(a==sysModules)=false)(rel:KV kvs vs)(dd:h'.DictOf (cM P w) a vs):
  c9 P w H' h' a (.dK kvs):=⟨z,hd,vs,rel,dd⟩
theorem IK {H':Hp}{Q:Unit->Shared->Prop}(hu:A.units+1<cLine)(I:Inv X pins σ H s)(g:xN H a y v H')(ry:bP y u)(rv:bP v r)(h:∀ s',Inv X pins σ H' s'->Q () s'):
  wpAny (model X.prog X.w) A (setItem (.ref a) u r) Q E s:=by
 rcases g with ⟨kvs,k,e,ey,l,eH⟩|⟨kvs,k,b,e,ey,eb,l,eH⟩
 ·subst ey eH;obtain ⟨z,hd,vs,rel,dd⟩:=VA I.hok e;have hz:vs.length<=sizeLine:=by rw[← rel.length];exact z
  have hl:(jY kvs k v).length<=sizeLine:=by have:=fX kvs k v;lia
  refine wpAny_setItem_pairs (hsz:=hz) (wS ry) dd λh' dd' hs=>h _ ?_;have he:∃ q,h'.get? a=some q:=let ⟨q,_,_,hq,_⟩:=dd';⟨q,hq⟩;exact FK I (by rw[e];exact True.intro) hs he (SH hl hd (rel.put k rv) dd')
 ·subst ey eH;cases (show u=Value.ref b from ry);obtain ⟨z,hd,xs,rel,dd⟩:=VB I.hok e;have hz:xs.length<=sizeLine:=by rw[← Paired.length rel];exact z
  have hl:(jY kvs k v).length<=sizeLine:=by have:=fX kvs k v;lia
  refine wpAny_setItem_heap (hsz:=hz) (tupleKind_room_in1 hu) (u9 I.hok eb) dd λh' dd' hs=>h _ ?_;obtain ⟨q,es,ep,hq,h2,h3,h4,_,h5⟩:=dd';refine FK I (by rw[e];exact True.intro) hs ⟨q,hq⟩ ⟨hl,hd,_,(rel.put k eb rv).keeps λc ys ec=>?_,q,es,ep,hq,h2,h3,h4,h5⟩;rw[aB (bI ec e (λz=>nomatch z))];exact ec
end
def OG (i:Expr):Prop:=∀ ov iv,subscripted i false ov iv=operate [ov,iv] (getItem ov iv)
theorem zY {prog:Program}{w:World}{A:Around}{E:Value->Shared->Prop}{s:Shared}{env:Env}{value slice:Expr}{pos:Pos}{T id:String}{Q:Value->Shared->Prop}
  (hl:typeLookup (.type T) "__getitem__" = pure (some (.builtin id))) (hs:OG slice)
  (h:wpAny (model prog w) A (eval value env) (λo s₁=>wpAny (model prog w) A (eval slice env) (λi s₂=>s₂.TypeIs o T/\wpAny (model prog w) A (getItem o i) Q E s₂) E s₁) E s):
  wpAny (model prog w) A (eval (.Subscript value slice pos) env) Q E s:=by
 refine Subscript_ (wpAny_mono h (λo s₁ h₁=>wpAny_mono h₁ (λi s₂ h₂=>?_) λ_ _ x=>x) λ_ _ x=>x);obtain ⟨hT,h₂⟩:=h₂;unfold subscriptTail;refine wpAny_bind ?_;rw[getitemInPython_of_ne hT.not_modules];refine wpAny_bind (wpAny_specialOf hT hl ?_)
 have fin:wpAny (model prog w) A (subscripted slice false o i) (λr s₃=>wpAny (model prog w) A (letTemporaryGo value o r >>= λ_=>pure r) Q E s₃) E s₂:=by
  rw[hs o i];exact wpAny_operating (wpAny_mono h₂ (λr s₃ h₃=>wpAny_bind (wpAny_letTemporaryGo (wpAny_pure h₃))) λ_ _ x=>x)
 first
  | exact wpAny_pure (wpAny_bind fin)
  | exact wpAny_bind (wpAny_pure (wpAny_bind fin))
  | exact wpAny_bind fin
theorem AL {X:Cx}{pins:List (Addr×Obj)}{σ:St}{H:Hp}{s:Shared}{a:Addr}{y:V}{o:Option V}(I:Inv X pins σ H s)(g:AB H a y o):s.TypeIs (.ref a) "dict" := by
 rcases g with ⟨kvs,k,e,_,_⟩|⟨kvs,k,b,e,_,_,_⟩
 ·obtain ⟨_,_,vs,_,dd⟩:=FP I.hok e;exact dd.typeIs
 ·obtain ⟨_,_,xs,_,dd⟩:=tT I.hok e;exact dd.typeIs
def WK (td ty:TE):TE:=λσ H Q=>td σ H λx H1=>ty σ H1 λy H2=>∃ a v,x=.ref a/\AB H2 a y (some v)/\Q v H2
def QV (ty td:TE):TE:=λσ H Q=>ty σ H λy H1=>td σ H1 λx H2=>∃ a o,x=.ref a/\AB H2 a y o/\Q (.bl (!o.isSome)) H2
def W8 (td ty tv:TE):TS:=λD σ H=>tv σ H λv H1=>td σ H1 λx H2=>ty σ H2 λy H3=>∃ a H4,x=.ref a/\xN H3 a y v H4/\D.nx σ H4
section
variable {X:Cx}{o i e value:Expr}{pos pos' tpos:Pos}{td ty tv:TE}
theorem PZ (hu:X.A.units+1<cLine)(ho:PE X o td)(hi:PE X i ty)(hs:OG i):PE X (.Subscript o i pos) (WK td ty):=by
 intro pins s σ H Q I h;refine zY PySem.F.slot_dict_getitem.lookup hs (thn (ho pins s σ H _ I h) λu s1 ⟨x,H1,I1,rx,q1⟩=>thn (hi pins s1 σ H1 _ I1 q1) λiv s2 ⟨y,H2,I2,ry,a,v,ex,g,q2⟩=>?_);subst ex;obtain rfl:u=Value.ref a:=rx;exact ⟨AL I2 g,IJ hu I2 g ry λw' s3 I3 rw'=>⟨v,H2,I3,rw',q2⟩⟩
theorem JG (hu:X.A.units+1<cLine)(hi:PE X i ty)(ho:PE X o td):PC X .NotIn i o (QV ty td):=by
 intro pins s σ H Q I h;refine thn (hi pins s σ H _ I h) λiv s1 ⟨y,H1,I1,ry,q1⟩=>thn (ho pins s1 σ H1 _ I1 q1) λu s2 ⟨x,H2,I2,rx,a,ov,ex,g,q2⟩=>?_;subst ex;obtain rfl:u=Value.ref a:=rx
 exact OT hu I2 g ry λs3 I3=>⟨.bl (!ov.isSome),H2,I3,rfl,q2⟩
theorem yT (hu:X.A.units+1<cLine)(ho:PE X o td)(hi:PE X i ty)(hv:PE X value tv)(hs:swapsWith value (some (.Subscript o i pos')) pos.line X.env=pure false):
  PS X (.Assign [.Subscript o i pos'] value pos) (W8 td ty tv):=by
 intro pins s σ H D I h;refine wpAny_Assign_Subscript (thn (hv pins s σ H _ I h) λr s1 ⟨v,H1,I1,rv,q1⟩=>thn (ho pins s1 σ H1 _ I1 q1) λu s2 ⟨x,H2,I2,rx,q2⟩=>thn (hi pins s2 σ H2 _ I2 q2) λiv s3 ⟨y,H3,I3,ry,a,H4,ex,g,q3⟩=>?_) hs;subst ex;obtain rfl:u=Value.ref a:=rx
 exact IK hu I3 g ry rv λs4 I4=>⟨σ,H4,I4,q3⟩
end
theorem L5 {P:Program}{w:World}{H:Hp}(h:Heap)(hb:sysModules<h.objs.size):c9 P w H (h.push { cls:=.type "dict",data:=.dict #[] }) h.objs.size (.dK []):=
 ⟨Nat.zero_le _,beq_eq_false_iff_ne.mpr (Ne.symm (Nat.ne_of_lt hb)),[],.nil,Heap.DictOf.new h⟩
theorem L7 {P:Program}{w:World}{H:Hp}(h:Heap)(hb:sysModules<h.objs.size):c9 P w H (h.push { cls:=.type "dict",data:=.dict #[] }) h.objs.size (.dT []):=
 ⟨Nat.zero_le _,beq_eq_false_iff_ne.mpr (Ne.symm (Nat.ne_of_lt hb)),[],.nil,_,#[],0,Heap.get?_push_size _ rfl,⟨rfl,rfl,rfl⟩,rfl,rfl,List.nodup_nil⟩
def UE:TE:=λ_ H Q=>∀ p,H p=none->Q (.ref p) (upd H p (.dK []))
def UF:TE:=λ_ H Q=>∀ p,H p=none->Q (.ref p) (upd H p (.dT []))
section
variable {X:Cx}{pos:Pos}
theorem MN:PE X (.Dict [] [] pos) UE:=λpins s σ H Q I h=>
 wpAny_Dict_empty ⟨.ref s.heap.objs.size,_,I.laid (a:=s.heap.objs.size) (o:=.dK []) (t':=s.toks) (λ_ _ q=>Heap.get?_push_of_some _ q) (Nat.le_refl _) (L5 s.heap I.big),rfl,h _ (I.hok.fresh (Nat.le_refl _))⟩
theorem BN:PE X (.Dict [] [] pos) UF:=λpins s σ H Q I h=>
 wpAny_Dict_empty ⟨.ref s.heap.objs.size,_,I.laid (a:=s.heap.objs.size) (o:=.dT []) (t':=s.toks) (λ_ _ q=>Heap.get?_push_of_some _ q) (Nat.le_refl _) (L7 s.heap I.big),rfl,h _ (I.hok.fresh (Nat.le_refl _))⟩
end
end L2
namespace L2
open PySem PySem.Spec PyProof.Rows
section
variable {X:Cx}{pins:List (Addr×Obj)}{σ:St}{H:Hp}{s:Shared}{h':Heap}
theorem Inv.turnedNew {t':Nat}{ch:List Addr}{T:Addr}{ob:HO}(I:Inv X pins σ H s)(k:∀ b o,b∉ch->s.heap.get? b=some o->h'.get? b=some o)(hf:∀ b∈ch,tF X pins H b)(hT:s.heap.objs.size<=T)
  (new:c9 X.prog X.w (upd H T ob) h' T ob):Inv X pins σ (upd H T ob) { s with heap:=h',toks:=t' }:=by
 have hn:H T=none:=I.hok.fresh hT
 have nit:∀ b u,H b=some u->b∉ch:=λb u e z=>by
  have q:=(hf b z).1;rw[q] at e;cases e
 refine I.step (g':=s.gens) (d':=s.drawn) (ch:=ch) (λb hb=>⟨(hf b hb).2.2.2.1,(hf b hb).2.1,(hf b hb).2.2.2.2.1,(hf b hb).2.2.2.2.2⟩) (λb o _ _ hc e _=>k b o hc e) (λb o _ _ hc e _=>⟨o.slots,k b o hc e⟩)
  (λb o _ e n=>?_) (λb o hc e=>⟨o,k b o hc e⟩) (λb xs e=>?_) (λb o u e=>?_) (λb ps e=>⟨#[],?_⟩) (λm hm=>?_) (λb u e=>?_) I.bare
 ·rw[aB (Nat.ne_of_lt (Nat.lt_of_lt_of_le (Heap.lt_size e) hT))];exact n
 ·rw[aB (aD e hn)];exact e
 ·rw[aB (aD e hn)];exact e
 ·rw[aB (aD e hn),e];simp
 ·obtain ⟨o,es,ep,ho,r⟩:=hm;exact ⟨o,es,ep,k _ o (λz=>(hf _ z).2.1 rfl) ho,r⟩
 ·by_cases hb:b=T
  ·subst hb;rw[aA] at e;cases e;exact new
  ·rw[aB hb] at e;refine (I.hok b u e).stay (λc v hc q=>k c v ?_ q) (λc q=>by rw[aB (aD q hn)];exact q) λc xs q=>by rw[aB (aD q hn)];exact q
   rcases hc with z|z
   ·rw[z];exact nit b u e
   ·exact nit c _ z
end
section
variable {X:Cx}
theorem TH {tg:Expr}{pins:List (Addr×Obj)}{σ:St}{H:Hp}{s:Shared}{R:It->Hp->Prop}{J:It}{tn:Nat->Heap->Prop}{tk:Nat}(I:Inv X pins σ H s)(o:Obj)
  (T:oP X.prog X.w X.K tg J [s.heap.objs.size] s.heap.objs.size tn) (st:tn 0 (s.heap.push o)) (q:R J H):PIE X pins σ tg R (.ref s.heap.objs.size) { s with heap:=s.heap.push o,toks:=tk }:=by
 refine ⟨s.heap.objs.size,[s.heap.objs.size],tn,J,H,rfl,I.kept λb ob e=>Heap.get?_push_of_some _ e,T,st,λb hb=>?_,q⟩;have e:b=s.heap.objs.size:=by simpa using hb
 subst e;exact I.fpOk (Nat.le_refl _) (I.hok.fresh (Nat.le_refl _))
end
def Itc (lo c:Int)(n:Nat):It:=⟨λi _=>i<n,λi H x H'=>H'=H/\x=.int (lo+(i:Nat)*c),λi _=>n<=i⟩
theorem CH {P:Program}{w:World}{K:PySem.W.Frag}{tg:Expr}(it:Addr)(lo c:Int)(n:Nat):oP P w K tg (Itc lo c n) [it] it (λi h=>IsRangeIter h it (lo+(i:Nat)*c) ((n:Int)-(i:Nat)) c) where
 mem:=by simp
 obj:=λi h st b hb=>by
  have e:b=it:=by simpa using hb
  subst e;exact ⟨_,st,λv z=>nomatch z⟩
 keep:=λi h h' st k=>k it (by simp) _ st
 item:=by
  intro X hP hw hK hc i pins s σ H E I hf st hg;subst hP hw hK;obtain ⟨f0,f1,f2,f3,f4,f5⟩:=hf it (by simp);have W:=Walks.range (prog:=X.prog) (w:=X.w) (I.ok.hd hc) it lo c n;refine W.item i s _ _ hg st λv h' tk hv st' kk=>?_;obtain ⟨t,rfl⟩:=hv;have I1:Inv X pins σ H { s with heap:=h',toks:=tk }:=I.turned (λb o hb e=>kk b o (by simpa using hb) e) f0 f1 f3 f4 f5;exact ⟨_,rfl,LG (s:={ s with heap:=h',toks:=tk }) (n := "range_iterator") st' rfl rfl (by decide) ⟨.int (lo+(i:Nat)*c),H,I1,⟨t,rfl⟩,⟨rfl,rfl⟩,st',λb hb=>(hf b hb).1⟩⟩
 done:=by
  intro X hP hw hK hc i pins s σ H E I hf st hg;subst hP hw hK;obtain ⟨f0,f1,f2,f3,f4,f5⟩:=hf it (by simp)
  exact wpAny_pyNext_range_end (I.ok.hd hc) st (by have:n<=i:=hg;lia) λh' eb=>⟨rfl,I.turned (t':=s.toks) (λb o hb e=>eb b o hb e) f0 f1 f3 f4 f5⟩
 self:=λA i s Q E st h=>wpAny_pyIter_rangeiter st h
def RgC (i j c:Int)(n:Nat):Prop:=c≠0/\c.natAbs<1073741824/\Builtin.Range.small i j c=true/\Builtin.Range.rangeSize i j c=n
theorem RgC.neg {i j:Int}(ha:-(2^62)<=i)(ha':i<2^62)(hb:-(2^62)<=j)(hb':j<2^62):RgC i j (-1) (i-j).toNat:=
 ⟨by decide,by decide,PySem.W.small_down ha ha' hb hb',PySem.W.rangeSize_downNat i j⟩
def VN (ta:TA):TI:=λσ H R=>ta σ H λvs H1=>∃ (i j c:Int) (n:Nat),vs=[.int i,.int j,.int c]/\RgC i j c n/\R (Itc i c n) H1
section
variable {X:Cx}{tg:Expr}
theorem JH {a b c:Expr}{ta:TA}{p pos:Pos}(hg:Gl X "range")(hm:X.mg "range" = none)(ha:PA X [a,b,c] ta)
  (hs:starEach [a,b,c] X.env=(false,eval a X.env)::starEach [b,c] X.env:=by rfl) (hpl:(backTo pos (starEach [b,c] X.env)).any (·.1)=false:=by rfl):
  PI X tg (.Call (.Name "range" p) [a,b,c] [] pos) (VN ta):=by
 intro pins s σ H R I h;refine Call_ (uC I hg hm boot_range (PyProof.Rows.callWith_type1 (thn (ha pos pins s σ H _ I h) λus s1 ⟨vs,H1,I1,r1,q1⟩=>?_) hs hpl));obtain ⟨i,j,k,n,e,⟨c0,c1,c2,c3⟩,q⟩:=q1;subst e
 cases r1 with
 | cons r rr=>
  cases rr with
  | cons r' rr=>
   cases rr with
   | cons r'' rr=>
    cases rr;obtain ⟨t,rfl⟩:=r;obtain ⟨t',rfl⟩:=r';obtain ⟨t'',rfl⟩:=r'';refine call_range_3 c0 ?_ (.inl (PyProof.noPylong_small c1));refine wpAny_pyIter_range (IsRange.new ..) c2 ?_;have I2:Inv X pins σ H1 { s1 with heap:=s1.heap.push { cls:=.type "range",data:=.fields #[.int i t,.int j t',.int k t''] } }:=I1.kept (t':=s1.toks) λb o e=>Heap.get?_push_of_some _ e;refine TH (tk:=s1.toks) I2 _ (CH _ i k n) ?_ q;have e1:i+((0:Nat):Int)*k=i:=by simp
    have e2:(n:Int)-((0:Nat):Int)=Builtin.Range.rangeSize i j k:=by rw[c3];simp
    show IsRangeIter _ _ (i+((0:Nat):Int)*k) ((n:Int)-((0:Nat):Int)) k;rw[e1,e2];exact Heap.get?_push_size _ rfl
end
theorem DK {lo c:Int}{n:Nat}{g:TG}{tb:TS}{D:vU}{σ:St}{H:Hp}(Pv:Nat->St->Hp->Prop)(h0:Pv 0 σ H)
  (hs:∀ i σ H,i<n->Pv i σ H->g (.int (lo+(i:Nat)*c)) σ H λσ2 H2=>tb { D with nx:=Pv (i+1),ct:=Pv (i+1),bk:=D.nx } σ2 H2) (hd:∀ σ H,Pv n σ H->D.nx σ H):
  ∃ W:Nat->Nat->St->Hp->Prop,(∃ m,W 0 m σ H)/\∀ i m σ H,W i m σ H->
   ((Itc lo c n).stop i H/\D.nx σ H)∨((Itc lo c n).go i H/\∃ N:St->Hp->Prop,(∀ σ' H',N σ' H'->∃ m',m'<m/\W (i+1) m' σ' H')/\∀ x H',(Itc lo c n).yld i H x H'->g x σ H' λσ2 H2=>tb { D with nx:=N,ct:=N,bk:=D.nx } σ2 H2):=by
 refine ⟨λi m σ H=>m=n-i/\i<=n/\Pv i σ H,⟨n,by simp,Nat.zero_le _,h0⟩,?_⟩;rintro i m σ H ⟨rfl,hi,p⟩
 by_cases hlt:i<n
 ·refine .inr ⟨hlt,Pv (i+1),λσ' H' p'=>⟨n-(i+1),by lia,rfl,hlt,p'⟩,λx H' y=>?_⟩;obtain ⟨e,y⟩:=y;subst e y;exact hs i σ _ hlt p
 ·have e:i=n:=by lia
  subst e;exact .inl ⟨Nat.le_refl _,hd σ H p⟩
theorem bM {α β:Type}{G:α->β->Prop}{l₁:List α}{l₂:List β}(h:Paired G l₁ l₂):∀ {i:Nat} {a:α},l₁[i]?=some a->∃ b,l₂[i]?=some b/\G a b:=by
 induction h with
 | nil=>intro i a e;simp at e
 | @cons a b l₁ l₂ r t ih=>
  intro i a' e
  cases i with
  | zero=>
   simp only[List.getElem?_cons_zero,Option.some.injEq] at e;subst e;exact ⟨b,rfl,r⟩
  | succ j=>
   simp only[List.getElem?_cons_succ] at e ⊢;exact ih e
def Ite (K:PySem.W.Frag)(a:Addr):It:=
 ⟨λi H=>∃ (xs:List V) (x:V),SqL K H a xs/\xs[i]?=some x,λi H v H'=>∃ T x,v=.ref T/\H T=none/\H'=upd H T (.tup [.int (i:Nat),x])/\∀ xs,SqL K H a xs->xs[i]?=some x,λi H=>∃ xs:List V,SqL K H a xs/\xs.length<=i⟩
theorem K3 {P:Program}{w:World}{K:PySem.W.Frag}{elts:List Expr}{kk:Nat}{tpos:Pos}(a e it:Addr):
  oP P w K (.Tuple elts kk tpos) (Ite K a) [e,it] e (λi h=>(∃ old,IsEnum h e it ((i:Nat):Int) old)/\h.IsListIter it a i/\e≠it) where
 mem:=by simp
 obj:=λi h st b hb=>by
  obtain ⟨⟨old,he⟩,⟨o,ho,hc,hd⟩,_⟩:=st;have e':b=e∨b=it:=by simpa using hb
  rcases e' with z|z
  ·rw[z];exact ⟨_,he,λv q=>nomatch q⟩
  ·rw[z];exact ⟨o,ho,λv q=>by rw[hd] at q;cases q⟩
 keep:=λi h h' st k=>let ⟨⟨old,he⟩,hi,hne⟩:=st;⟨⟨old,k e (by simp) _ he⟩,hi.at λo q=>k it (by simp) o q,hne⟩
 item:=by
  intro X hP hw hK hc i pins s σ H E I hf st hg;subst hP hw hK;obtain ⟨⟨old,he⟩,hit,hne⟩:=st;obtain ⟨xs,x,hq,hx⟩:=hg;obtain ⟨its,rv,p,hz⟩:=I.list hq;obtain ⟨u,hu,ru⟩:=rv.get hx;have hel:e<s.heap.objs.size:=Heap.lt_size he;have hil:it<s.heap.objs.size:=by obtain ⟨_,q,_⟩:=hit;exact Heap.lt_size q
  refine wpAny_pyNext_enum_item he hit p.isList (x:=u) (by simpa using hu) hne λh' ho hit' hT hsz hk=>?_;refine ⟨_,rfl,wpAny_letOwnedTupleGo_enum (s:={ s with heap:=h',toks:=s.toks+1 }) ho λh'' he' sb=>?_⟩;have hT2:h''.get? s.heap.objs.size=some { cls:=.type "tuple",data:=.seq #[.int i s.toks,u] }:=(sb.2 _ (Nat.ne_of_gt hel)).trans hT
  have new:c9 X.prog X.w (upd H s.heap.objs.size (.tup [.int (i:Nat),x])) h'' s.heap.objs.size (.tup [.int (i:Nat),x]):=
   ⟨by show 2<=sizeLine;decide,[.int i s.toks,u],.cons ⟨_,rfl⟩ (.cons ru .nil),⟨_,hT2,rfl,_,rfl⟩⟩
  have I1:Inv X pins σ (upd H s.heap.objs.size (.tup [.int (i:Nat),x])) { s with heap:=h'',toks:=s.toks+1 }:=
   I.turnedNew (ch:=[e,it]) (λb ob hb q=>(sb.2 b (λz=>hb (by simp[z]))).trans (hk b ob (λz=>hb (by simp[z])) (λz=>hb (by simp[z])) q)) hf (Nat.le_refl _) new
  refine ⟨.ref s.heap.objs.size,_,I1,rfl,⟨_,x,rfl,I.hok.fresh (Nat.le_refl _),rfl,λys hy=>by rw[I.list_inj hy hq];exact hx⟩,⟨⟨u,?_⟩,hit'.at λo q=>(sb.2 it (Ne.symm hne)).trans q,hne⟩,λb hb=>?_⟩
  ·have e1:((i+1:Nat):Int)=(i:Int)+1:=by lia
   rw[e1];exact he'
  ·have hb':b<s.heap.objs.size:=by
    have e':b=e∨b=it:=by simpa using hb
    rcases e' with z|z
    ·rw[z];exact hel
    ·rw[z];exact hil
   rw[aB (Nat.ne_of_lt hb')];exact (hf b hb).1
 done:=by
  intro X hP hw hK hc i pins s σ H E I hf st hg;subst hP hw hK;obtain ⟨⟨old,he⟩,hit,hne⟩:=st;obtain ⟨xs,hq,hx⟩:=hg;obtain ⟨its,rv,p,hz⟩:=I.list hq;obtain ⟨f0,f1,f2,f3,f4,f5⟩:=hf it (by simp);have hl:=rv.length
  exact wpAny_pyNext_enum_end (I.ok.hd hc) he hit p.isList (by simp;lia) λh' eb=>⟨rfl,I.turned (t':=s.toks) (λb o hb q=>eb b o hb q) f0 f1 f3 f4 f5⟩
 self:=λA i s Q E st h=>let ⟨⟨_,he⟩,_⟩:=st;wpAny_pyIter_enum he h
inductive US (K:PySem.W.Frag) (vs:List V) (H:Hp) (R:It->Hp->Prop):Prop
 | mk:∀ a xs,vs=[.ref a]->SqL K H a xs->R (Ite K a) H->US K vs H R
def VJ (K:PySem.W.Frag)(ta:TA):TI:=λσ H R=>ta σ H λvs H1=>US K vs H1 R
theorem Q4 {X:Cx}{e:Expr}{ta:TA}{p pos tpos:Pos}{elts:List Expr}{kk:Nat}(hg:Gl X "enumerate")(hm:X.mg "enumerate" = none)(ha:PA X [e] ta)(hs:starEach [e] X.env=[(false,eval e X.env)]:=by rfl):
  PI X (.Tuple elts kk tpos) (.Call (.Name "enumerate" p) [e] [] pos) (VJ X.K ta):=by
 intro pins s σ H R I h;refine Call_ (uC I hg hm boot_enumerate (PyProof.Rows.callWith_type1 (thn (ha pos pins s σ H _ I h) λus s1 ⟨vs,H1,I1,r1,q1⟩=>?_) hs rfl));obtain ⟨a,xs,ex,hq,q⟩:=q1;subst ex
 cases r1 with
 | cons r rr=>
  cases rr;cases r;obtain ⟨its,rv,p',hz⟩:=I1.list hq;refine call_enumerate_list p'.isList λh' he hit hsz hk=>wpAny_pyIter_enum he ?_;have I2:Inv X pins σ H1 { s1 with heap:=h' }:=I1.kept (t':=s1.toks) hk;refine ⟨s1.heap.objs.size+1,[s1.heap.objs.size+1,s1.heap.objs.size],_,_,H1,rfl,I2,K3 a (s1.heap.objs.size+1) s1.heap.objs.size,⟨⟨.none,he⟩,hit,Nat.succ_ne_self _⟩,λb hb=>?_,q⟩;have e':b=s1.heap.objs.size+1∨b=s1.heap.objs.size:=by simpa using hb
  have hle:s1.heap.objs.size<=b:=by
   rcases e' with z|z
   ·rw[z];exact Nat.le_add_right _ _
   ·rw[z];exact Nat.le_refl _
  exact I1.fpOk hle (I1.hok.fresh hle)
end L2
section
namespace TL
open PySem PySem.Builtin PySem.Builtin.Str PySem.StrLaws
abbrev tl (x:Str):List Nat:=x.cps.toList
theorem xI (x y:Str):tl (x++y)=tl x++tl y:=by
 show (x++y).cps.toList=_;rw[Str.cps_append,Array.toList_append]
def wQ (S:List Nat):List (List Nat)->List Nat
 | []=>[]
 | [p]=>p
 | p::q::r=>p++(S++wQ S (q::r))
theorem IA (y:Str):∀ parts:List Str,tl (Str.join y parts)=wQ (tl y) (parts.map tl)
 | []=>rfl
 | [_]=>rfl
 | x::z::r=>by
  show tl (x++y++Str.join y (z::r))=tl x++(tl y++wQ (tl y) ((z::r).map tl))
  rw[xI,xI,IA y (z::r),List.append_assoc]
theorem OZ (y:Str)(parts:List Str):Txt.join y parts=Str.join y parts:=glued_eq_join y parts
end TL
end
namespace L2
open PySem PySem.Spec PyProof.Rows
theorem kH:∀ {ys:List Str} {us:List Value},bH (ys.map V.str) us->StrsAre us ys
 | [],_,.nil=>.nil
 | y::ys,_,.cons r t=>by
  obtain ⟨k,rfl⟩:=r;exact .cons y k (kH t)
section
variable {X:Cx}
theorem P5:MtR X "str.join" (λx xs H Q=>∃ a p,∃ ys:List Str,x=.str a/\xs=[.ref p]/\(SqL X.K H p (ys.map V.str)∨SqT X.K H p (ys.map V.str))/\
  (ys.map (·.length)).sum+ys.length*a.length<=16777216/\Q (.str (Txt.join a ys)) H):=by
 intro pins s σ H x xs v us Q I rx rs h;obtain ⟨a,p,ys,rfl,rfl,hp,hz,h⟩:=h;obtain ⟨t,rfl⟩:=rx
 cases rs with
 | cons r1 rs=>
  cases rs;cases r1
  rcases hp with hp|hp
  ·obtain ⟨its,r,⟨o,n,ho,hc,_,hd⟩,_⟩:=I.list hp
   exact PyProof.Rows.join_list (items:=its.toArray) ⟨o,ho,hc,n,hd⟩ (by rw[List.toList_toArray];exact kH r) hz λt' k=>⟨.str _,H,I.tok k,⟨t',rfl⟩,h⟩
  ·obtain ⟨its,r,ht,_⟩:=I.tuple hp
   exact PyProof.Rows.join_tuple (items:=its.toArray) ht (by rw[List.toList_toArray];exact kH r) hz λt' k=>⟨.str _,H,I.tok k,⟨t',rfl⟩,h⟩
end
section
variable {X:Cx}{o e:Expr}{to te:TE}
def tM1 (r:V->List V->Hp->VK->Prop)(to te:TE):TE:=λσ H Q=>to σ H λx H1=>(∃ a,x=.str a)/\te σ H1 λy H2=>r x [y] H2 Q
theorem VW {id:String}{name:Str}{apos pos:Pos}{r:V->List V->Hp->VK->Prop}(slot:Slot "str" name id)(ty:typeOf (.builtin id)=pure (.type "method_descriptor"))(rule:MtR X id r)(ho:PE X o to)(he:PE X e te)
  (hs:starEach [e] X.env=[(false,eval e X.env)]:=by rfl) (hbase:attributeBase o name X.env (eval o X.env)=eval o X.env:=by rfl) (hline:(apos.endLine==pos.line)=true:=by rfl):
  PE X (.Call (.Attribute o name apos) [e] [] pos) (tM1 r to te):=by
 intro pins s σ H Q I h;refine PySem.Call_method1 hbase hs hline (thn (ho pins s σ H _ I h) λv s1 ⟨x,H1,I1,r1,q1⟩=>?_);obtain ⟨⟨a,rfl⟩,q1⟩:=q1;obtain ⟨t,rfl⟩:=_root_.id r1;refine ⟨"str",_,F.plainAttrs_str,slot,ty,typeIs_str _ _ _,(λ_ e=>nomatch e),Calls.callWith_builtin rfl (Calls.evalArgs_plain (Calls.spliced_cons ?_))⟩;exact thn (he pins s1 σ H1 _ I1 q1) λu s2 ⟨y,H2,I2,r2,q2⟩=>Calls.spliced_nil (rule pins s2 σ H2 _ [y] _ [u] Q I2 r1 (.cons r2 .nil) q2)
theorem Q2 {apos pos:Pos}(ho:PE X o to)(he:PE X e te)(hs:starEach [e] X.env=[(false,eval e X.env)]:=by rfl)(hbase:attributeBase o "join" X.env (eval o X.env)=eval o X.env:=by rfl)(hline:(apos.endLine==pos.line)=true:=by rfl):
  PE X (.Call (.Attribute o "join" apos) [e] [] pos) (tM1 (λx xs H Q=>∃ a p,∃ ys:List Str,x=.str a/\xs=[.ref p]/\(SqL X.K H p (ys.map V.str)∨SqT X.K H p (ys.map V.str))/\
   (ys.map (·.length)).sum+ys.length*a.length<=16777216/\Q (.str (Txt.join a ys)) H) to te):=
 VW F.slot_str_join F.type_str_join P5 ho he hs hbase hline
end
end L2
namespace L2
open PySem PySem.Spec PyProof.Rows
def eW (s:Stmt)(j:Nat):Stmt:=match s with
 | .ClassDef _ _ _ body _ _ _ _ _ _ _=>body.getD j (.Pass ⟨0,0,0,0⟩)
 | _=>.Pass ⟨0,0,0,0⟩
def jM (s:Stmt):Arguments:=match s with
 | .FunctionDef _ a _ _ _ _ _ _ _ _=>a
 | _=>{ posonlyargs:=[],args:=[],vararg:=none,kwonlyargs:=[],kw_defaults:=[],kwarg:=none,defaults:=[] }
def fQ (s:Stmt):List Stmt:=match s with
 | .FunctionDef _ _ b _ _ _ _ _ _ _=>b
 | _=>[]
def aI (s:Stmt):Scope:=match s with
 | .FunctionDef _ _ _ _ _ _ sc _ _ _=>sc
 | _=>{ kind:=.function,names:=[],isGenerator:=false,isCoroutine:=false }
abbrev CX0:CXT:=λ_ _ _ _ _ _=>False
abbrev E0:XK:=λ_ _ _=>False
theorem aR {X:Cx}:iF CX0 X E0:=λ_ _ _ _ _ _ _ h=>h.elim
structure Fun (K:PySem.W.Frag)(x qual:Str)(st:Stmt)(f:Addr)(fd:FuncData):Prop where
 ex:∃ (oc:Value) (od:Option Addr) (kV doc pm:Value) (an:Option Addr) (cdv ct:Value) (osl:Array (Option Value)),
  fd=PySem.W.fnOf x qual (jM st) (fQ st) (aI st) .none kV doc pm an cdv ct/\K.lookup f=some ⟨oc,od,.func fd,osl⟩/\PySem.W.codeIn K cdv qual=true
 kp:PySem.W.keepIn K (.ref f)=true
section
variable {P:Program}{w:World}{K:PySem.W.Frag}{mg:Str->Option Value}{base:Heap}
theorem Fun.ok {x qual:Str}{st:Stmt}{f:Addr}{fd:FuncData}{N ps:List Str}{k:Nat}{sp:Sp}(F:Fun K x qual st f fd)(S:aO N ps (aI st))(len:∀ vs H Q E,sp vs H Q E->vs.length=ps.length)
  (hbody:∀ (cdv:Value) (A:Around) (outer:List Env) (s:Shared) (H:Hp) (vs:List V) (Q:VK) (E:XK),cI k (A.deeper (envOfC qual (aI st) s.heap.objs.size f cdv))->sp vs H Q E->
   ∃ t,PSs (mQ CX0 P w K mg base N qual (aI st) f cdv A outer s H E).nox (fQ st) t/\t { nx:=λ_ H'=>Q .non H',rt:=Q } (start N vs) H):aN P w K mg base CX0 (k+1) f fd ps sp:=by
 obtain ⟨oc,od,kV,doc,pm,an,cdv,ct,osl,rfl,lk,hcd⟩:=F.ex;refine RB lk hcd S len λA outer s H vs Q E hr hsp=>?_;obtain ⟨t,h,q⟩:=hbody cdv A outer s H vs Q E hr hsp;exact ⟨t,h.nox,q⟩
theorem Fun.binds {x qual:Str}{st:Stmt}{f:Addr}{fd:FuncData}{ps:List Str}(F:Fun K x qual st f fd)
  (h:∀ (kV doc pm:Value) (an:Option Addr) (cdv ct:Value) (us:List Value),us.length=ps.length->bindArgs (PySem.W.fnOf x qual (jM st) (fQ st) (aI st) .none kV doc pm an cdv ct) ⟨us,[]⟩=pure (ps.zip us)):cZ K fd ps []:=by
 obtain ⟨oc,od,kV,doc,pm,an,cdv,ct,osl,rfl,lk,hcd⟩:=F.ex;exact .all (h kV doc pm an cdv ct)
theorem LD {x qual:Str}{st:Stmt}{f:Addr}{oc:Value}{od an:Option Addr}{osl:Array (Option Value)}{kV doc pm cdv ct:Value}(l:K.lookup f=some ⟨oc,od,.func (PySem.W.fnOf x qual (jM st) (fQ st) (aI st) .none kV doc pm an cdv ct),osl⟩)
  (c:PySem.W.codeIn K cdv qual=true) (k:PySem.W.keepIn K (.ref f)=true):Fun K x qual st f (PySem.W.fnOf x qual (jM st) (fQ st) (aI st) .none kV doc pm an cdv ct):=⟨⟨oc,od,kV,doc,pm,an,cdv,ct,osl,rfl,l,c⟩,k⟩
end
section
variable {X:Cx}
theorem pv (i:Nat){x:Str}{pos:Pos}(hN:X.N[i]?=some x:=by rfl)(hv:Vis X.env.scope x:=by first|exact Or.inl rfl|exact Or.inr (Or.inl rfl)|exact Or.inr (Or.inr rfl))(hd:(x==("__debug__" : Str))=false:=by decide)
  (hcd:(x==("__classdict__" : Str))=false:=by decide):PE X (.Name x pos) (NW i):=TD hN hv hd hcd
end
theorem V9 {xs:List V}{z:Int}{j:Nat}{v:V}(e:z=(j:Int))(h:xs[j]?=some v):atI xs z=some v:=by
 rw[e];exact aX h
end L2
namespace L2
open PySem PySem.Spec PyProof.Rows XF
def mP (C:Addr)(od:Option Addr)(e:Addr):HO:=.ext (Exc (.ref C) od e .none)
def vV (C:Addr)(od:Option Addr)(e:Addr):HO:=.ext λh=>∃ tb,Exc (.ref C) od e tb h
def mW (fs:List (Str×V))(d:Addr):HO:=.ext λh=>∃ mA,h.Ns1 d mA/\(∀ f,gM (fs.lookup f) (mA f))/\PySem.Within mA (fs.map (·.1))/\fs.length<=1000
theorem AN {cls tb:Value}{od:Option Addr}{e:Addr}{h1 h2:Heap}(x:Exc cls od e tb h1)(k:∀ o,h1.get? e=some o->h2.get? e=some o):Exc cls od e tb h2:=by
 obtain ⟨vs,sl,q,r⟩:=x;exact ⟨vs,sl,k _ q,r⟩
theorem iP {cls tb:Value}{od:Option Addr}{e:Addr}{h:Heap}(x:Exc cls od e tb h):∃ o,h.get? e=some o:=let ⟨_,_,q,_⟩:=x;⟨_,q⟩
section
variable {P:Program}{w:World}{H:Hp}{h:Heap}{C e d:Addr}{od:Option Addr}{fs:List (Str×V)}
theorem okN (x:Exc (.ref C) od e .none h):c9 P w H h e (mP C od e):=⟨x,iP x,λ_ _ a k=>AN a k⟩
theorem okO {tb:Value}(x:Exc (.ref C) od e tb h):c9 P w H h e (vV C od e):=⟨⟨tb,x⟩,iP x,λ_ _ ⟨t,a⟩ k=>⟨t,AN a k⟩⟩
theorem okD {mA:Str->Option Value}(n:h.Ns1 d mA)(r:∀ f,gM (fs.lookup f) (mA f))(wi:PySem.Within mA (fs.map (·.1)))(l:fs.length<=1000):c9 P w H h d (mW fs d):=by
 refine ⟨⟨mA,n,r,wi,l⟩,?_,λh1 h2 ⟨m,a,b⟩ k=>⟨m,a.at k,b⟩⟩;obtain ⟨o,_,_,q,_⟩:=n;exact ⟨o,q⟩
theorem OU (x:HOk P w H h)(q:H e=some (mP C od e)):Exc (.ref C) od e .none h:=(show c9 P w H h e (mP C od e) from x e _ q).1
theorem getO (x:HOk P w H h)(q:H e=some (vV C od e)):∃ tb,Exc (.ref C) od e tb h:=(show c9 P w H h e (vV C od e) from x e _ q).1
theorem LE (x:HOk P w H h)(q:H d=some (mW fs d)):∃ mA,h.Ns1 d mA/\(∀ f,gM (fs.lookup f) (mA f))/\PySem.Within mA (fs.map (·.1))/\fs.length<=1000:=(show c9 P w H h d (mW fs d) from x d _ q).1
end
theorem c9.there {P:Program}{w:World}{H:Hp}{h:Heap}{a:Addr}{o:HO}(x:c9 P w H h a o):∃ u,h.get? a=some u:=by
 cases o with
 | lst xs=>obtain ⟨_,_,_,_,e⟩:=x;exact ⟨_,e⟩
 | tup xs=>obtain ⟨_,_,_,_,e,_⟩:=x;exact ⟨_,e⟩
 | dK kvs=>obtain ⟨_,_,_,_,o,_,_,e,_⟩:=x;exact ⟨_,e⟩
 | dT kvs=>obtain ⟨_,_,_,_,o,_,_,e,_⟩:=x;exact ⟨_,e⟩
 | set S n=>obtain ⟨o,_,_,_,e,_⟩:=x;exact ⟨_,e⟩
 | ins C dx fs=>obtain ⟨_,_,_,e,_⟩:=x;exact ⟨_,e⟩
 | own y=>exact x
 | xd fs=>obtain ⟨_,⟨_,_,_,e,_⟩,_⟩:=x;exact ⟨_,e⟩
 | rng lo hi=>obtain ⟨_,_,_,e⟩:=x;exact ⟨_,e⟩
 | frz ob u=>obtain ⟨e,_⟩:=x;exact ⟨_,e⟩
 | tbl ps=>exact ⟨_,(show h.get? a=some _ from x)⟩
 | met f y=>exact ⟨_,(show h.get? a=some _ from x)⟩
 | ext φ=>obtain ⟨_,e,_⟩:=x;exact e
theorem HOk.untracked {P:Program}{w:World}{H:Hp}{h:Heap}{a:Addr}(x:HOk P w H h)(n:h.get? a=none):H a=none:=by
 cases q:H a with
 | none=>rfl
 | some o=>
  obtain ⟨u,e⟩:=(x a o q).there;rw[n] at e;cases e
theorem DI {φ:Heap->Prop}{H:Hp}{a:Addr}(q:H a=some (.ext φ)):(∀ xs,H a≠some (.tup xs))/\(∀ y,H a≠some (.own y))/\(∀ o u,H a≠some (.frz o u))/\∀ ps,H a≠some (.tbl ps):=
 ⟨λ_ z=>(by rw[q] at z;cases z),λ_ z=>(by rw[q] at z;cases z),λ_ _ z=>(by rw[q] at z;cases z),λ_ z=>(by rw[q] at z;cases z)⟩
def sX0 (K:PySem.W.Frag)(ta tv:TE)(f:Str):TS:=λD σ H=>tv σ H λy H1=>ta σ H1 λx H2=>∃ a C,x=.ref a/\H2 a=some (mP C none a)/\XC K C/\aZ K C f/\
 ∀ d,H2 d=none->d≠a->D.nx σ (upd (upd H2 d (mW [(f,y)] d)) a (mP C (some d) a))
def sX (K:PySem.W.Frag)(ta tv:TE)(f:Str):TS:=λD σ H=>tv σ H λy H1=>ta σ H1 λx H2=>∃ a C d fs,x=.ref a/\H2 a=some (mP C (some d) a)/\H2 d=some (mW fs d)/\XC K C/\aZ K C f/\fs.length<1000/\
 D.nx σ (upd H2 d (mW (iY f y fs) d))
def WM (K:PySem.W.Frag)(ta:TE)(f:Str):TE:=λσ H Q=>ta σ H λx H1=>∃ a C d fs v,x=.ref a/\H1 a=some (vV C (some d) a)/\H1 d=some (mW fs d)/\XC K C/\aZ K C f/\fs.lookup f=some v/\Q v H1
section
variable {X:Cx}{o e value:Expr}{f:Str}{pos pos':Pos}{ta tv:TE}
theorem VY (ha:PE X o ta)(hv:PE X value tv)(hs:swapsWith value (some (.Attribute o f pos')) pos.line X.env=pure false):PS X (.Assign [.Attribute o f pos'] value pos) (sX0 X.K ta tv f):=by
 intro pins s σ H D I h;refine plainObj_wpAny_Assign_Attribute (thn (hv pins s σ H _ I h) λu0 s1 ⟨y,H1,I1,ry,q⟩=>thn (ha pins s1 σ H1 _ I1 q) λov s2 ⟨x,H2,I2,rx,a,C,ex,ea,c,n,q2⟩=>?_) hs;subst ex;obtain rfl:ov=Value.ref a:=rx;obtain ⟨vs,sl,hx,hz,h1⟩:=OU I2.hok ea;refine WH I2.kIn c n hx λh' d n1 nd x1 kp=>?_;have fd:H2 d=none:=I2.hok.untracked nd
 have nda:d≠a:=λz=>by
  rw[z,hx] at nd;cases nd
 have ne1:=DI ea
 have hH:∀ b u,H2 b=some u->b≠a->(upd (upd H2 d (mW [(f,y)] d)) a (mP C (some d) a)) b=some u:=λb u q nb=>by
  rw[aB nb,aB (aD q fd)];exact q
 refine ⟨σ,_,I2.un (t':=s2.toks+2) (h':=h') (H':=upd (upd H2 d (mW [(f,y)] d)) a (mP C (some d) a)) ⟨λb o q nb _ _=>kp b o (λz=>?_) q,λb o q nb _ _=>⟨o.slots,kp b o (λz=>?_) q⟩,λb o q nb _=>?_,λb o q _=>?_,λb xs q=>hH b _ q ?_,λb o u q=>hH b _ q ?_,λb ps q=>⟨#[],?_⟩⟩ (λb u q=>?_),q2 d fd nda⟩
 ·rw[z,ea] at nb;cases nb
 ·rw[z,ea] at nb;cases nb
 ·have nba:b≠a:=λz=>by rw[z,ea] at nb;cases nb
  have nbd:b≠d:=λz=>by rw[z,nd] at q;cases q
  rw[aB nba,aB nbd];exact nb
 ·by_cases z:b=a
  ·subst z;exact ⟨_,x1⟩
  ·exact ⟨o,kp b o z q⟩
 ·exact λz=>ne1.1 xs (z▸q)
 ·exact λz=>ne1.2.2.1 o u (z▸q)
 ·rw[hH b _ q (λz=>ne1.2.2.2 ps (z▸q))];simp
 ·by_cases z:b=a
  ·subst z;rw[aA] at q;cases q;exact okN ⟨vs,sl,x1,hz,h1⟩
  ·rw[aB z] at q
   by_cases z2:b=d
   ·subst z2;rw[aA] at q;cases q;refine okD n1 (λg=>?_) (λg hg=>?_) (by show 1<=1000;decide)
    ·by_cases q:g=f
     ·rw[if_pos q,q];show gM (([(f,y)]:List (Str×V)).lookup f) (some u0);simp only[List.lookup,beq_self_eq_true];exact ry
     ·rw[if_neg q];have hb:(g==f)=false:=beq_eq_false_iff_ne.mpr q;show gM (([(f,y)]:List (Str×V)).lookup g) none;simp only[List.lookup,hb];exact True.intro
    ·by_cases q:g=f
     ·rw[q];simp
     ·rw[if_neg q] at hg;exact absurd rfl hg
   ·rw[aB z2] at q;have nb:b≠a:=z;refine (I2.hok b u q).stay (λc v hc r=>kp c v (λz3=>?_) r) (λc r=>hH c _ r λz3=>ne1.2.1 b (z3▸r)) λc xs r=>hH c _ r λz3=>ne1.1 xs (z3▸r)
    rcases hc with z4|z4
    ·exact nb (z4▸z3)
    ·exact ne1.2.1 b (z3▸z4)
theorem ps_x (ha:PE X o ta)(hv:PE X value tv)(hs:swapsWith value (some (.Attribute o f pos')) pos.line X.env=pure false):PS X (.Assign [.Attribute o f pos'] value pos) (sX X.K ta tv f):=by
 intro pins s σ H D I h;refine plainObj_wpAny_Assign_Attribute (thn (hv pins s σ H _ I h) λu s1 ⟨y,H1,I1,ry,q⟩=>thn (ha pins s1 σ H1 _ I1 q) λov s2 ⟨x,H2,I2,rx,a,C,d,fs,ex,ea,ed,c,n,lt,q2⟩=>?_) hs;subst ex;obtain rfl:ov=Value.ref a:=rx;obtain ⟨vs,sl,hx,hz,h1⟩:=OU I2.hok ea;obtain ⟨mA,n1,r,wi,l⟩:=LE I2.hok ed
 refine setX I2.kIn c n hx n1 wi (by rw[List.length_map,sizeLine_eq];lia) λh' n2 sb=>⟨σ,_,?_,q2⟩
 refine I2.write (x:=d) (e:=d) (by rw[ed];exact True.intro) (.inl rfl) (λb u nb z=>(sb.2 b nb).trans z) (let ⟨o,_,_,e',_⟩:=n2;⟨o,e'⟩) ?_;refine okD n2 (λg=>?_) (λg hg=>?_) (by have:=kZ f y fs;lia)
 ·rw[l8]
  by_cases q:g=f
  ·rw[if_pos q,if_pos q];exact ry
  ·rw[if_neg q,if_neg q];exact r g
 ·by_cases q:g=f
  ·rw[q];exact (iU f y fs).1
  ·refine (iU f y fs).2 g (wi g λz=>hg ?_);rw[if_neg q];exact z
theorem GU (he:PE X e ta)(hb:attributeBase e f X.env (eval e X.env)=eval e X.env):PE X (.Attribute e f pos) (WM X.K ta f):=by
 intro pins s σ H Q I h;refine FB hb (thn (he pins s σ H _ I h) λu s1 ⟨x,H1,I1,rx,a,C,d,fs,v,ex,ea,ed,c,n,l,q⟩=>?_);subst ex;obtain rfl:u=Value.ref a:=rx;obtain ⟨tb,vs,sl,hx,hz,h1⟩:=getO I1.hok ea;obtain ⟨mA,n1,r,wi,_⟩:=LE I1.hok ed;obtain ⟨u',hu,ru⟩:=gM.some_of (v:=v) (o:=mA f) (by rw[← l];exact r f);obtain ⟨od,ho,hl⟩:=wV n1;exact getX I1.kIn c n hx n1 hu (wN ru) ⟨od,ho,hl f⟩ ⟨v,H1,I1.tok _,ru,q⟩
end
def CO (K:PySem.W.Frag)(C f:Addr):Bool:=match K.lookup C with
 | some ⟨.type "type",_,.cls cd,sl⟩=>(match sl.toList with
  | [_,_,_,_,some (.builtin n),_]=>n == "ValueError.__new__" && decide (cd.mro=.ref C::oW)&&!cd.hasDel&&(match K.lookup cd.ns with
   | some ⟨_,_,.dict es _,_⟩=>es.all (λx=>match x.key with|.str _ _=>true|_=>false)&&decide (nsFind es "__init__" = some (.ref f))
   | _=>false)
  | _=>false)
 | _=>false
theorem F6 {K:PySem.W.Frag}{h:Heap}{C f:Addr}(X:K.In h)(q:CO K C f=true):∃ nm qn N bs hdct sn sub ab col dd k0 k1 k2 k3 k5,
  h.get? C=some (excClassObj nm qn C N bs oW hdct sn sub ab col dd k0 k1 k2 k3 k5 "ValueError.__new__")/\∃ mN,h.Ns N mN/\mN "__init__" = some (.ref f):=by
 unfold CO at q;split at q
 ·rename_i dd cd sl ho;split at q
  ·rename_i k0 k1 k2 k3 n k5 hs;simp only[Bool.and_eq_true,beq_iff_eq,Bool.not_eq_true',decide_eq_true_eq] at q;obtain ⟨⟨⟨rfl,hm⟩,hdel⟩,hn⟩:=q;split at hn
   ·rename_i oc od es ep osl hN;rw[Bool.and_eq_true,decide_eq_true_eq] at hn;obtain ⟨nm,bs,mro,ns,qn,hd,sn,sub,ab,col,del⟩:=cd;dsimp only at hm hdel hN;subst hm hdel
    have hsl:sl=#[k0,k1,k2,k3,some (.builtin "ValueError.__new__"),k5]:=by
     obtain ⟨l⟩:=sl;simp only at hs;rw[hs]
    subst hsl;refine ⟨nm,qn,ns,bs,hd,sn,sub,ab,col,dd,k0,k1,k2,k3,k5,X _ _ ho,nsFind es,⟨_,es,ep,X _ _ hN,rfl,λx hx=>?_,λ_=>rfl⟩,hn.2⟩
    have:=Array.all_eq_true_iff_forall_mem.mp hn.1 x hx
    revert this
    cases x.key with
    | str a b=>exact λ_=>⟨a,b,rfl⟩
    | _=>intro z;cases z
   ·cases hn
  ·cases q
 ·cases q
structure XMk (K:PySem.W.Frag)(C f:Addr):Prop where
 made:CO K C f=true
 fn:PySem.W.isFn K (.ref f)=true
 kp:PySem.W.keepIn K (.ref C)=true
def EV (C:Addr)(sp:Sp)(t:TA):TE:=λσ H Q=>t σ H λvs H1=>vs.length<=sizeLine/\∀ x,H1 x=none->sp (.ref x::vs) (upd H1 x (mP C none x)) (λv H2=>v=.non/\Q (.ref x) H2) E0
section
variable {X:Cx}{k:Nat}{f C:Addr}{fd:FuncData}{ps:List Str}{sp:Sp}{x:Str}{p pos:Pos}{e:Expr}{es:List Expr}{t:TA}
theorem JL {pins:List (Addr×Obj)}{σ:St}{H:Hp}{s:Shared}{Q:VK}{us:List Value}{vs:List V}(M:XMk X.K C f)(F:aN X.prog X.w X.K X.mg X.base CX0 k f fd ps sp)(hr:cI (k+1) X.A)(hb:cZ X.K fd ps [])
  (I:Inv X pins σ H s) (r:bH vs us) (hz:vs.length<=sizeLine)
  (h:∀ x,H x=none->sp (.ref x::vs) (upd H x (mP C none x)) (λv H2=>v=.non/\Q (.ref x) H2) E0):
  wpAny (model X.prog X.w) X.A (call (.ref C) us) (EP X pins σ Q) X.xe s:=by
 obtain ⟨nm,qn,N,bs,hdct,sn,sub,ab,col,dd,k0,k1,k2,k3,k5,hC,mN,hN,hi⟩:=F6 I.kIn M.made
 obtain ⟨of,lf,cf⟩:∃ o,s.heap.get? f=some o/\o.cls=.type "function" := by
  have q:(X.K.lookup f).map (·.cls)=some (.type "function"):=beq_iff_eq.mp M.fn
  cases lk:X.K.lookup f with
  | none=>
   rw[lk] at q;cases q
  | some o=>
   rw[lk] at q;exact ⟨o,I.kIn _ _ lk,Option.some.inj q⟩
 obtain ⟨hh,g,d,tk,os⟩:=s;refine wpAny_call_exc_init (F:=PySem.F.excBase_ValueError) hC hN hi lf cf (λh' e me=>?_) (by rw[← r.length];exact hz);have ne:=I.hok.untracked me.new;have hq:=h e ne;obtain ⟨t0,e1,nt,et⟩:=me.there
 have x1:Exc (.ref C) none e .none h':=⟨_,_,e1,rfl,rfl⟩
 have I2:Inv X pins σ (upd H e (mP C none e)) ⟨h',g,d,tk,os⟩:=I.un (t':=tk) (h':=h') ⟨λb o q _ _ _=>me.keeps b o q,λb o q _ _ _=>⟨o.slots,me.keeps b o q⟩,
   λb o q nb _=>by rw[aB (λz=>by rw[z,me.new] at q;cases q)];exact nb,λb o q _=>⟨o,me.keeps b o q⟩,λb xs q=>by rw[aB (aD q ne)];exact q,
   λb o u q=>by rw[aB (aD q ne)];exact q,λb ps q=>⟨#[],by rw[aB (aD q ne),q];simp⟩⟩ (λb u q=>by
  by_cases z:b=e
  ·subst z;rw[aA] at q;cases q;exact okN x1
  ·rw[aB z] at q
   exact (I.hok b u q).stay (λc v _ r=>me.keeps c v r) (λc r=>by rw[aB (aD r ne)];exact r) λc xs r=>by rw[aB (aD r ne)];exact r)
 have r2:bH (V.ref e::vs) (Value.ref e::us):=.cons rfl r
 have hl:(Value.ref e::us++[]).length=ps.length:=by
  rw[List.append_nil,← r2.length];exact F.len _ _ _ _ hq
 have rr:=F.run _ X.stack _ _ ⟨Value.ref e::us,[]⟩ (Value.ref e::us) _ _ E0 (hr.make C us []) (I2.env0.make C us []) (by have:=hb ⟨h',g,d,tk,os⟩ (Value.ref e::us) I2.kIn hl;rwa [List.append_nil] at this) r2 hq;refine wpAny_call (codeAny_mono rr λr s' hq'=>?_)
 cases r with
 | error e=>exact False.elim hq'
 | ok fl=>
  cases fl with
  | ret u=>
   obtain ⟨v,H',I3,rv,ev,q3⟩:=I2.after hq';subst ev;exact ⟨rv,⟨V.ref e,H',I3,rfl,q3⟩⟩
  | next=>exact False.elim hq'
  | brk=>exact False.elim hq'
  | cont=>exact False.elim hq'
theorem MP (M:XMk X.K C f)(F:aN X.prog X.w X.K X.mg X.base CX0 k f fd ps sp)(hr:cI (k+1) X.A)(hg:Gl X x)(hm:X.mg x=some (.ref C))(hb:cZ X.K fd ps [])
  (ha:PA X (e::es) t) (hdb:(x==("__debug__" : Str))=false:=by decide) (he:starEach (e::es) X.env=(false,eval e X.env)::starEach es X.env:=by rfl) (hpl:(backTo pos (starEach es X.env)).any (·.1)=false:=by rfl):
  PE X (.Call (.Name x p) (e::es) [] pos) (EV C sp t):=by
 intro pins s σ H Q I h;refine wpAny_Call_Name_kw (jQ I hg hm ?_ hdb);refine PySem.W.callWith_K (h₀:=X.base) I.ok.mod.kin M.kp (thn (ha pos pins s σ H _ I h) λus s1 ⟨vs,H1,I1,r,hz,q⟩=>⟨I1.kIn,?_⟩) he hpl;exact JL M F hr hb I1 r hz q
end
end L2
namespace L2
open PySem PySem.Spec PyProof.Rows XF
theorem QY {fs fs':List Addr}{H0 H1 H2:Hp}{h0 h1 h2:Heap}(a:Un fs [] H0 H1 h0 h1)(b:Un fs' [] H1 H2 h1 h2)(h:∀ x∈fs',x∈fs∨h0.get? x=none):Un fs [] H0 H2 h0 h2 where
 keep:=λc o q n hc hx=>b.keep c o (a.keep c o q n hc hx) (a.free c o q n hx) (λz=>(h c z).elim hc λz=>by rw[z] at q;cases q) hx
 slot:=λc o q n hc hx=>by
  obtain ⟨sl,e1⟩:=a.slot c o q n hc hx;obtain ⟨sl',e2⟩:=b.any e1 (a.free c o q n hx) hx;exact ⟨sl',e2⟩
 free:=λc o q n hx=>by
  obtain ⟨o',e1⟩:=a.there c o q hx;exact b.free c o' e1 (a.free c o q n hx) hx
 there:=λc o q hx=>by
  obtain ⟨o',e1⟩:=a.there c o q hx;exact b.there c o' e1 hx
 tups:=λc xs q=>b.tups c xs (a.tups c xs q)
 frzs:=λc o u q=>b.frzs c o u (a.frzs c o u q)
 tbls:=λc ps q=>by
  obtain ⟨m1,e1⟩:=a.tbls c ps q;obtain ⟨m2,e2⟩:=b.tbls c _ e1;exact ⟨m1++m2,by rw[e2,Array.append_assoc]⟩
theorem IC {fs fs' ex:List Addr}{H H1 H2:Hp}{h h1 h2:Heap}{e:Addr}{φ ψ:Heap->Prop}(u:Un fs [] H H1 h h1)(tn:XF.oP fs' ex h1 h2)(hf:∀ x∈fs',x∈fs∨h.get? x=none)(hx:∀ x∈ex,x=e∨h.get? x=none)
  (e1:H1 e=some (.ext φ)) (e2:H2 e=some (.ext ψ)) (hH:∀ b,b≠e->H2 b=H1 b) (th:∃ o,h2.get? e=some o):Un fs [] H H2 h h2:=by
 have ne:∀ b,H1 b=none->b≠e:=λb q z=>by rw[z,e1] at q;cases q
 have nx:∀ b o,h.get? b=some o->H1 b=none->b∉ex:=λb o q n z=>(hx b z).elim (ne b n) λz=>by rw[z] at q;cases q
 have ex1:=DI e1;refine ⟨λc o q n hc _=>?_,λc o q n hc _=>?_,λc o q n _=>?_,λc o q _=>?_,λc xs q=>?_,λc o v q=>?_,λc ps q=>?_⟩
 ·have n1:=u.free c o q n (by simp);exact tn.keep c o (nx c o q n1) (λz=>(hf c z).elim hc λz=>by rw[z] at q;cases q) (u.keep c o q n hc (by simp))
 ·obtain ⟨sl,q1⟩:=u.slot c o q n hc (by simp);obtain ⟨sl',q2⟩:=tn.slot c _ (nx c o q (u.free c o q n (by simp))) q1;exact ⟨sl',q2⟩
 ·have n1:=u.free c o q n (by simp);rw[hH c (ne c n1)];exact n1
 ·obtain ⟨o1,q1⟩:=u.there c o q (by simp)
  by_cases z:c∈ex
  ·rcases hx c z with z|z
   ·rw[z];exact th
   ·rw[z] at q;cases q
  ·obtain ⟨sl,q2⟩:=tn.slot c o1 z q1;exact ⟨_,q2⟩
 ·have q1:=u.tups c xs q;rw[hH c (λz=>ex1.1 xs (z▸q1))];exact q1
 ·have q1:=u.frzs c o v q;rw[hH c (λz=>ex1.2.2.1 o v (z▸q1))];exact q1
 ·obtain ⟨m,q1⟩:=u.tbls c ps q;exact ⟨m,by rw[hH c (λz=>ex1.2.2.2 _ (z▸q1))];exact q1⟩
theorem u5 {P:Program}{w:World}{fs' ex:List Addr}{H1 H2:Hp}{h1 h2:Heap}{e:Addr}{φ ψ:Heap->Prop}(x:HOk P w H1 h1)(tn:XF.oP fs' ex h1 h2)(hf:∀ b∈fs',H1 b=none)(hx:∀ b∈ex,b=e∨H1 b=none)
  (e1:H1 e=some (.ext φ)) (e2:H2 e=some (.ext ψ)) (hH:∀ b,b≠e->H2 b=H1 b) (new:c9 P w H2 h2 e (.ext ψ)):HOk P w H2 h2:=λb u q=>by
 have ex1:=DI e1
 by_cases z:b=e
 ·subst z;rw[e2] at q;cases q;exact new
 ·rw[hH b z] at q
  have kp:∀ c v,c≠e->H1 c=some v->∀ o,h1.get? c=some o->h2.get? c=some o:=λc v nc r o r2=>
   tn.keep c o (λy=>(hx c y).elim nc λy=>by rw[y] at r;cases r) (λy=>by rw[hf c y] at r;cases r) r2
  refine (x b u q).stay (λc v hc r=>?_) (λc r=>?_) λc xs r=>?_
  ·rcases hc with y|y
   ·rw[y] at r ⊢;exact kp b u z q v r
   ·exact kp c _ (λz2=>ex1.2.1 b (z2▸y)) y v r
  ·rw[hH c (λz2=>ex1.2.1 b (z2▸r))];exact r
  ·rw[hH c (λz2=>ex1.1 xs (z2▸r))];exact r
theorem FU {base:Heap}{fs:List Addr}{H H':Hp}{h h':Heap}(u:Un fs [] H H' h h'):∀ {l:List Env},(∀ b∈frs l,H b=none)->h.FunFrames base l->h'.FunFrames base l
 | [],_,_=>trivial
 | env::r,hn,⟨hk,⟨L,o,hf,hb,ho,hd⟩,hr⟩=>by
  have hL:L∈frs (env::r):=by
   unfold frs;rw[List.filterMap_cons,hf];exact List.mem_cons_self
  obtain ⟨sl,e⟩:=u.any ho (hn L hL) (by simp);refine ⟨hk,⟨L,_,hf,hb,e,hd⟩,FU u (λb hb=>hn b ?_) hr⟩;unfold frs at hb ⊢;rw[List.filterMap_cons,hf];exact List.mem_cons_of_mem _ hb
def CXF (P:Program)(w:World)(C:Addr):CXT:=λouter H s E ev s'=>∃ e d fs H' T,ev=.ref e/\H' e=some (vV C (some d) e)/\H' d=some (mW fs d)/\Exc (.ref C) (some d) e (.ref T) s'.heap/\Rec T .none s'.heap/\T≠e/\s.heap.objs.size<=T/\H' T=none/\
 s'.os=s.os/\AllBare s'.gens/\Un (frs outer) [] H H' s.heap s'.heap/\HOk P w H' s'.heap/\E (.ref e) (some d) H'
section
variable {P:Program}{w:World}{K:PySem.W.Frag}{mg:Str->Option Value}{base:Heap}{N:List Str}{qual:Str}{scope:Scope}{f:Addr}{cd:Value}{A:Around}{outer:List Env}{s0:Shared}{H0:Hp}{E:XK}{C:Addr}
theorem DM {pins:List (Addr×Obj)}{σ:St}{H:Hp}{s:Shared}{e d:Addr}{fs:List (Str×V)}(I:Inv (mQ (CXF P w C) P w K mg base N qual scope f cd A outer s0 H0 E) pins σ H s)(he:H e=some (mP C (some d) e))(hd:H d=some (mW fs d))
  (q:E (.ref e) (some d) (upd H e (vV C (some d) e))):(mQ (CXF P w C) P w K mg base N qual scope f cd A outer s0 H0 E).xe (.ref e) s:=by
 have x:=OU I.hok he
 have st:(envOfC qual scope s0.heap.objs.size f cd).frame=some (envOfC qual scope s0.heap.objs.size f cd).locals:=by
  rcases I.ok.stk with z|⟨_,z⟩
  ·exact absurd (congrArg List.length z) (by show ¬ (outer.length+1=outer.length);lia)
  ·exact z
 have nde:d≠e:=λz=>by
  obtain ⟨_,_,x1,_⟩:=id x;obtain ⟨mA,⟨o,es,ep,x2,dd,_⟩,_⟩:=LE I.hok hd;rw[z,x1] at x2;cases x2;cases dd
 refine B0 (base:=base) I.ok.frames I.stack st x λh' T tn lT ne x' r=>?_;have nT:s.heap.get? T=none:=Heap.get?_none_of_le lT;have lc:s0.heap.objs.size<=(envOfC qual scope s0.heap.objs.size f cd).locals:=I.ok.above;have sub:=I.stkSub;refine ⟨e,d,fs,upd H e (vV C (some d) e),T,rfl,aA,by rw[aB nde];exact hd,x',r,ne,Nat.le_trans I.sz lT,by rw[aB ne];exact I.hok.untracked nT,I.os,I.bare,?_,?_,q⟩
 ·refine IC (fs:=frs outer) (h:=s0.heap) I.base tn (λy hy=>?_) (λy hy=>.inl (by simpa using hy)) he aA (λb nb=>aB nb) (iP x')
  rcases List.mem_cons.mp (sub y hy) with z|z
  ·right;rw[z];exact Heap.get?_none_of_le lc
  ·exact .inl z
 ·exact u5 I.hok tn I.stkFree (λy hy=>.inl (by simpa using hy)) he aA (λb nb=>aB nb) (okO x')
theorem cO:iF (CXF P w C) (mQ (CXF P w C) P w K mg base N qual scope f cd A outer s0 H0 E) E:=by
 rintro pins σ H s ev s' I ⟨e,d,fs,H',T,rfl,he,hd,x,r,ne,lT,hT,os,bare,un,hok,q⟩
 have st:(envOfC qual scope s0.heap.objs.size f cd).frame=some (envOfC qual scope s0.heap.objs.size f cd).locals:=by
  rcases I.ok.stk with z|⟨_,z⟩
  ·exact absurd (congrArg List.length z) (by show ¬ (outer.length+1=outer.length);lia)
  ·exact z
 have lc:s0.heap.objs.size<=(envOfC qual scope s0.heap.objs.size f cd).locals:=I.ok.above;have hl:s'.heap.FunFrames base (envOfC qual scope s0.heap.objs.size f cd::outer):=FU un I.stkFree I.stack
 have sf:∀ y∈frs (envOfC qual scope s0.heap.objs.size f cd::outer),y∈frs outer∨s0.heap.get? y=none:=λy hy=>by
  rcases List.mem_cons.mp (I.stkSub y hy) with z|z
  ·right;rw[z];exact Heap.get?_none_of_le lc
  ·exact .inl z
 have fn:∀ b∈frs (envOfC qual scope s0.heap.objs.size f cd::outer),H' b=none:=λb hb=>by
  obtain ⟨_,o,ho,_⟩:=I.stack.mem hb;exact un.free b o ho (I.stkFree b hb) (by simp)
 show wpAny _ _ (leaving _ _) _ _ _;unfold leaving;refine wpAny_bind (wZ (base:=base) I.ok.frames hl st x r ne λh2 T2 tn lT2 ne2 x2 r2=>LM x2 r2 ne2 λh3 kp x3 r3=>?_);have n2:∀ b o,s'.heap.get? b=some o->b≠T2:=λb o z=>Nat.ne_of_lt (Nat.lt_of_lt_of_le (Heap.lt_size z) lT2);have up:∀ b o,s.heap.get? b=some o->∃ o',s'.heap.get? b=some o':=λb o z=>un.there b o z (by simp)
 have tn3:XF.oP (frs (envOfC qual scope s0.heap.objs.size f cd::outer)) [e,T] s'.heap h3:=by
  refine ⟨λb o hx hfs z=>kp b o (n2 b o z) (tn.keep b o hx hfs z),λb o hx z=>?_⟩;obtain ⟨sl,z1⟩:=tn.slot b o hx z;exact ⟨sl,kp b _ (n2 b o z) z1⟩
 have T0:s0.heap.get? T=none:=Heap.get?_none_of_le (Nat.le_trans I.sz lT)
 have sz:s.heap.objs.size<=T2:=by
  obtain ⟨oT,_,z,_⟩:=id r;exact Nat.le_trans lT (Nat.le_trans (Nat.le_of_lt (Heap.lt_size z)) lT2)
 refine ⟨e,d,fs,H',T2,rfl,he,hd,x3,r3,ne2,Nat.le_trans I.sz sz,hok.untracked (Heap.get?_none_of_le lT2),os.trans I.os,bare,?_,?_,q⟩
 ·refine IC (QY (fs:=frs outer) (h0:=s0.heap) I.base un sf) tn3 sf (λy hy=>?_) he he (λ_ _=>rfl) (iP x3);simp only[List.mem_cons,List.not_mem_nil,or_false] at hy
  rcases hy with rfl|rfl
  ·exact .inl rfl
  ·exact .inr T0
 ·refine u5 hok tn3 fn (λy hy=>?_) he he (λ_ _=>rfl) (okO x3);simp only[List.mem_cons,List.not_mem_nil,or_false] at hy
  rcases hy with rfl|rfl
  ·exact .inl rfl
  ·exact .inr hT
end
end L2
namespace L2
open PySem PySem.Spec PyProof.Rows XF
theorem E6 {M:Model}{A:Around}{E:Value->Shared->Prop}{env:Env}{s:Shared}{x:Sem Value}{Q:Flow->Shared->Prop}(hh:A.handled=none)
  (h:wpAny M A x (λv s1=>∃ e C od nm qn N bs hdct sn sub ab col dd k0 k1 k2 k3 k5,v=.ref e/\s1.heap.get? C=some (excClassObj nm qn C N bs oW hdct sn sub ab col dd k0 k1 k2 k3 k5 "ValueError.__new__")/\Exc (.ref C) od e .none s1.heap/\E (.ref e) s1) E s):
  wpAny M A (raiseStmt env (some x) none) Q E s:=by
 unfold raiseStmt;refine wpAny_bind (wpAny_mono h (λv s1 h1=>?_) λ_ _ x=>x);obtain ⟨e,C,od,nm,qn,N,bs,hdct,sn,sub,ab,col,dd,k0,k1,k2,k3,k5,rfl,hC,⟨vs,sl,he,hz,tb⟩,hE⟩:=h1;have hcB:(Value.ref C::oW).contains (.type "BaseException")=true:=by rw[List.contains_cons];exact Bool.or_true _
 obtain ⟨hp,g,d,tk,os⟩:=s1
 repeat (first|with_reducible refine wpAny_loadPart_at he ?_|with_reducible refine wpAny_loadPart_at hC ?_|(with_reducible refine wpAny_isSubtype_exc hC ?_;rw[hcB])|with_reducible refine wpAny_field he rfl tb ?_|wp_step)
 exact wpAny_raiseNew_none hh hE
def CY (C:Addr)(X:Cx)(E:XK):Prop:=∀ (pins:List (Addr×Obj)) (σ:St) (H:Hp) (s:Shared) (e d:Addr) (fs:List (Str×V)),Inv X pins σ H s->H e=some (mP C (some d) e)->H d=some (mW fs d)->
 E (.ref e) (some d) (upd H e (vV C (some d) e))->X.xe (.ref e) s
theorem dB {P:Program}{w:World}{K:PySem.W.Frag}{mg:Str->Option Value}{base:Heap}{N:List Str}{qual:Str}{scope:Scope}{f:Addr}{cd:Value}{A:Around}{outer:List Env}{s0:Shared}{H0:Hp}{E:XK}{C:Addr}:
  CY C (mQ (CXF P w C) P w K mg base N qual scope f cd A outer s0 H0 E) E:=λ_ _ _ _ _ _ _ I he hd q=>DM I he hd q
def N2 (C:Addr)(E:XK)(te:TE):TS:=λ_ σ H=>te σ H λv H1=>∃ e d fs,v=.ref e/\H1 e=some (mP C (some d) e)/\H1 d=some (mW fs d)/\E (.ref e) (some d) (upd H1 e (vV C (some d) e))
theorem MQ {X:Cx}{C f:Addr}{E:XK}{ex:Expr}{te:TE}{pos:Pos}(hc:X.calm=true)(M:XMk X.K C f)(hr:CY C X E)(he:PE X ex te):PS X (.Raise (some ex) none pos) (N2 C E te):=by
 intro pins s σ H D I h;rw[arm_exec_Raise];simp only[evalOpt,Option.map];refine wpAny_bind (wpAny_standAt (E6 (I.ok.hd hc) (wpAny_bind (wpAny_mono (he pins s σ H _ I h) (λu s1 ⟨v,H1,I1,rv,e,d,fs,ev,q1,q2,q3⟩=>wpAny_bind (wpAny_standAt (wpAny_pure ?_))) λ_ _ z=>z))));subst ev;obtain rfl:u=Value.ref e:=rv;obtain ⟨nm,qn,N,bs,hdct,sn,sub,ab,col,dd,k0,k1,k2,k3,k5,hC,_⟩:=F6 I1.kIn M.made;exact ⟨e,C,some d,nm,qn,N,bs,hdct,sn,sub,ab,col,dd,k0,k1,k2,k3,k5,rfl,hC,OU I1.hok q1,hr pins σ H1 s1 e d fs I1 q1 q2 q3⟩
theorem Fun.okX {P:Program}{w:World}{K:PySem.W.Frag}{mg:Str->Option Value}{base:Heap}{C:Addr}{x qual:Str}{st:Stmt}{f:Addr}{fd:FuncData}{N ps:List Str}{k:Nat}{sp:Sp}(F:Fun K x qual st f fd)(S:aO N ps (aI st))(len:∀ vs H Q E,sp vs H Q E->vs.length=ps.length)
  (hbody:∀ (cdv:Value) (A:Around) (outer:List Env) (s:Shared) (H:Hp) (vs:List V) (Q:VK) (E:XK),cI k (A.deeper (envOfC qual (aI st) s.heap.objs.size f cdv))->sp vs H Q E->
   ∃ t,PSs (mQ (CXF P w C) P w K mg base N qual (aI st) f cdv A outer s H E) (fQ st) t/\t { nx:=λ_ H'=>Q .non H',rt:=Q } (start N vs) H):aN P w K mg base (CXF P w C) (k+1) f fd ps sp:=by
 obtain ⟨oc,od,kV,doc,pm,an,cdv,ct,osl,rfl,lk,hcd⟩:=F.ex;exact RB lk hcd S len λA outer s H vs Q E hr hsp=>hbody cdv A outer s H vs Q E hr hsp
theorem ML {CX:CXT}{P:Program}{w:World}{K:PySem.W.Frag}{mg:Str->Option Value}{base:Heap}{N:List Str}{qual:Str}{scope:Scope}{f:Addr}{cd:Value}{A:Around}{outer:List Env}{s0:Shared}{H0:Hp}{E:XK}:
  PassesOwn (model P w) (mQ CX P w K mg base N qual scope f cd A outer s0 H0 E).A (mQ CX P w K mg base N qual scope f cd A outer s0 H0 E).env (mQ CX P w K mg base N qual scope f cd A outer s0 H0 E).xe:=PassesOwn.leaving
abbrev Cx.inExc (X:Cx)(e:Addr):Cx:={ X with A:=X.A.mark (some (.ref e)),calm:=false,xe:=λ_ _=>False }
abbrev Cx.body (X:Cx)(pn:List (Addr×Obj))(xe:Value->Shared->Prop):Cx:={ X with pn:=pn,xe:=xe }
section
variable {X:Cx}{pins:List (Addr×Obj)}{σ:St}{H:Hp}{s:Shared}
theorem Cx.Ok.inExc (ok:X.Ok)(e:Addr):(X.inExc e).Ok:=⟨ok.mod,ok.kind,ok.glob,ok.blt,ok.above,ok.inj,ok.has,ok.cab,(λz=>nomatch z),ok.frames,ok.stk,ok.exf,ok.bs,ok.bsz,ok.noex,ok.exfs,ok.funs,ok.frf⟩
theorem Cx.Ok.body (ok:X.Ok)(pn:List (Addr×Obj))(xe:Value->Shared->Prop):(X.body pn xe).Ok:=⟨ok.mod,ok.kind,ok.glob,ok.blt,ok.above,ok.inj,ok.has,ok.cab,ok.hd,ok.frames,ok.stk,ok.exf,ok.bs,ok.bsz,ok.noex,ok.exfs,ok.funs,ok.frf⟩
theorem Inv.inExc (I:Inv X pins σ H s)(e:Addr):Inv (X.inExc e) pins σ H s:=⟨I.ok.inExc e,I.os,I.bare,I.base,I.loc,I.cell,I.free,I.freeC,I.pin,I.hok,I.len⟩
theorem Inv.body (I:Inv X pins σ H s)(xe:Value->Shared->Prop):Inv (X.body (X.pn++pins) xe) [] σ H s:=⟨I.ok.body _ _,I.os,I.bare,I.base,I.loc,I.cell,I.free,I.freeC,λp hp=>I.pin p (by rwa [List.append_nil] at hp),I.hok,I.len⟩
theorem SP.body {xe:Value->Shared->Prop}{D:vU}{f:Flow}{s':Shared}(ok:X.Ok)(h:SP (X.body (X.pn++pins) xe) [] D f s'):SP X pins D f s':=by
 have k:∀ {σ':St} {H':Hp},Inv (X.body (X.pn++pins) xe) [] σ' H' s'->Inv X pins σ' H' s':=λI=>⟨ok,I.os,I.bare,I.base,I.loc,I.cell,I.free,I.freeC,λp hp=>I.pin p (List.mem_append_left _ hp),I.hok,I.len⟩
 cases f with
 | next=>obtain ⟨σ',H',I,q⟩:=h;exact ⟨σ',H',k I,q⟩
 | brk=>obtain ⟨σ',H',I,q⟩:=h;exact ⟨σ',H',k I,q⟩
 | cont=>obtain ⟨σ',H',I,q⟩:=h;exact ⟨σ',H',k I,q⟩
 | ret u=>obtain ⟨v,σ',H',I,r,q⟩:=h;exact ⟨v,σ',H',k I,r,q⟩
theorem Inv.forget {pins':List (Addr×Obj)}(I:Inv X pins σ H s){h':Heap}{t:Nat}{m:Str->Option Value}(hn:h'.Ns X.env.locals m)(sb:Heap.SameBut X.env.locals s.heap h')(hp:∀ p∈pins',p∈X.pn++pins)(hc:X.env.cells=[]):
  Inv X pins' (List.replicate X.N.length none) H { s with heap:=h',toks:=t }:=by
 have kp:∀ b o,b≠X.env.locals->s.heap.get? b=some o->h'.get? b=some o:=λb o nb q=>(sb.2 b nb).trans q;have nl:∀ b u,H b=some u->b≠X.env.locals:=λb u q z=>by rw[z,I.free] at q;cases q
 have old:∀ b o,X.s_0.heap.get? b=some o->b≠X.env.locals:=λb o q=>Nat.ne_of_lt (Nat.lt_of_lt_of_le (Heap.lt_size q) I.ok.above);have hl:∃ o,h'.get? X.env.locals=some o:=let ⟨o,_,_,q,_⟩:=hn;⟨o,q⟩;refine ⟨I.ok,I.os,I.bare,⟨λb o q n hb hx=>kp b o (old b o q) (I.base.keep b o q n hb hx),λb o q n hb hx=>?_,I.base.free,λb o q hx=>?_,I.base.tups,I.base.frzs,I.base.tbls⟩,⟨m,hn,λi x v _ q _=>?_⟩,λx c q=>?_,I.free,I.freeC,λp q=>?_,λb u q=>?_,by simp⟩
 ·obtain ⟨sl,e⟩:=I.base.slot b o q n hb hx;exact ⟨sl,kp b _ (old b o q) e⟩
 ·obtain ⟨o',e⟩:=I.base.there b o q hx;exact ⟨o',kp b o' (old b o q) e⟩
 ·rw[List.getElem?_replicate] at q;split at q<;>cases q
 ·rw[hc] at q;cases q
 ·have q:p∈X.pn++pins:=(List.mem_append.mp q).elim (λz=>List.mem_append_left _ z) (hp p);obtain ⟨e,n,ne,nf,d⟩:=I.pin p q;exact ⟨kp _ _ ne e,n,ne,nf,d⟩
 ·refine (I.hok b u q).stay (λc v hc r=>kp c v ?_ r) (λ_ r=>r) λ_ _ r=>r
  rcases hc with z|z
  ·rw[z];exact nl b u q
  ·exact nl c _ z
end
end L2
namespace L2
open PySem PySem.Spec PyProof.Rows XF
def R5 (i l:Nat)(th:TS)(D:vU):XK:=λev _ H'=>∃ e,ev=.ref e/\∀ σ:St,σ.length=l->th { nx:=λ_ _=>False,rt:=D.rt } (σ.set i (some (.ref e))) H'
def sTry (i l:Nat)(tb:XK->TS)(th:TS):TS:=λD σ H=>tb (R5 i l th D) D σ H
section
variable {X:Cx}{pins pins2:List (Addr×Obj)}{σ:St}{H:Hp}{s:Shared}
theorem Inv.unbody {xe:Value->Shared->Prop}(ok:X.Ok)(I:Inv (X.body (X.pn++pins) xe) pins2 σ H s):Inv X pins σ H s:=
 ⟨ok,I.os,I.bare,I.base,I.loc,I.cell,I.free,I.freeC,λp hp=>I.pin p (List.mem_append_left _ hp),I.hok,I.len⟩
theorem Inv.unExc {e:Addr}(ok:X.Ok)(I:Inv (X.inExc e) pins σ H s):Inv X pins σ H s:=⟨ok,I.os,I.bare,I.base,I.loc,I.cell,I.free,I.freeC,I.pin,I.hok,I.len⟩
theorem Inv.record {T:Addr}{h':Heap}(I:Inv X pins σ H s)(kp:∀ b o,b≠T->s.heap.get? b=some o->h'.get? b=some o)(hT:H T=none)(lo:X.s_0.heap.objs.size<=T)(nl:T≠X.env.locals)(nc:X.env.cells=[])(np:∀ p∈X.pn++pins,p.1≠T):
  Inv X pins σ H { s with heap:=h' }:=
 I.call (g':=s.gens) (t':=s.toks) (d':=s.drawn) (ch:=[T]) ⟨λb o q _ _ hx=>kp b o (λz=>hx (by simp[z])) q,λb o q _ _ hx=>⟨o.slots,kp b o (λz=>hx (by simp[z])) q⟩,λ_ _ _ n _=>n,λb o q hx=>⟨o,kp b o (λz=>hx (by simp[z])) q⟩,λ_ _ q=>q,λ_ _ _ q=>q,λb ps q=>⟨#[],by rw[q];simp⟩⟩
  (λb u q=>(I.hok b u q).stay (λc v hc r=>kp c v (λz=>by
   rcases hc with y|y
   ·rw[← y,z,hT] at q;cases q
   ·rw[z,hT] at y;cases y) r) (λ_ r=>r) λ_ _ r=>r) I.bare
  (λb hb=>by
   have e:b=T:=by simpa using hb
   subst e
   exact ⟨.inr lo,nl,λx c q=>(by rw[nc] at q;cases q),np⟩)
end
theorem MR {X:Cx}{C f:Addr}{x n:Str}{np hpos pos:Pos}{b0:Stmt}{suite body:List Stmt}{tb:XK->TS}{th:TS}{i:Nat}(M:XMk X.K C f)(hg:Gl X x)(hm:X.mg x=some (.ref C))(hN:X.N.Nodup)(hi:X.N[i]?=some n)
  (hloc:X.env.kindOf n=some .local) (hcells:X.env.cells=[]) (hst:X.stack=X.env::X.outer) (hfr:X.env.frame=some X.env.locals)
  (hb:∀ pn xe E,iF (CXF X.prog X.w C) (X.body pn xe) E->PSs (X.body pn xe) body (tb E)) (hh:∀ e,PSs (X.inExc e) (b0::suite) th) (hdb:(x==("__debug__" : Str))=false:=by decide) (hfn:X.fn n=true:=by rfl):
  PS X (.Try body [.ExceptHandler (some (.Name x np)) (some n) (b0::suite) hpos] [] [] pos) (sTry i X.N.length tb th):=by
 intro pins s σ H D I h;have hcls:(X.env.scope.kind==.class||(X.env.scope.kind==.module&&X.env.locals != X.env.globals))=false:=by rw[I.ok.kind];rfl
 refine wpAny_Try_except (wpAny_mono (hb (X.pn++pins) _ (R5 i X.N.length th D) ?_ [] s σ H D (I.body _) h) (λfl s1 q=>?_) λ_ _ z=>z)
 ·rintro pins2 σ2 H2 s2 ev s2' I2 ⟨e,d,fs,H',T,rfl,he,hd,x1,r1,ne,lT,hT,os,bare,un,hok,e',ee,q⟩;cases ee;have I3:Inv X pins σ2 H' s2':=(I2.call' os un hok bare (λb z=>nomatch z)).unbody I.ok
  replace I2:Inv X pins σ2 H2 s2:=I2.unbody I.ok
  have fr:X.A.frames=some (X.env::X.outer):=by rw[← hst];exact I.ok.frames
  have hl:s2'.heap.FunFrames X.base (X.env::X.outer):=by rw[← hst];exact I3.stack
  refine wZ (base:=X.base) fr hl hfr x1 r1 ne λh2 T2 tn lT2 ne2 x2 r2=>LM x2 r2 ne2 λh3 kp x3 r3=>?_;have n2:∀ b o,s2'.heap.get? b=some o->b≠T2:=λb o z=>Nat.ne_of_lt (Nat.lt_of_lt_of_le (Heap.lt_size z) lT2)
  have tn3:XF.oP (frs X.stack) [e,T] s2'.heap h3:=by
   rw[hst];refine ⟨λb o hx hfs z=>kp b o (n2 b o z) (tn.keep b o hx hfs z),λb o hx z=>?_⟩;obtain ⟨sl,z1⟩:=tn.slot b o hx z;exact ⟨sl,kp b _ (n2 b o z) z1⟩
  have lT':X.s_0.heap.objs.size<=T:=Nat.le_trans I2.sz lT;have nTl:T≠X.env.locals:=Nat.ne_of_gt (Nat.lt_of_lt_of_le I2.lt lT)
  have np2:∀ p∈X.pn++pins,p.1≠T:=λp hp=>by
   obtain ⟨z,_⟩:=I2.pin p hp;exact Nat.ne_of_lt (Nat.lt_of_lt_of_le (Heap.lt_size z) lT)
  have hok3:HOk X.prog X.w H' h3:=by
   refine u5 hok tn3 I3.stkFree (λy hy=>?_) he he (λ_ _=>rfl) (okO x3);simp only[List.mem_cons,List.not_mem_nil,or_false] at hy
   rcases hy with rfl|rfl
   ·exact .inl rfl
   ·exact .inr hT
  have I4:Inv X pins σ2 H' { s2' with heap:=h3 }:=by
   refine I3.call (g':=s2'.gens) (t':=s2'.toks) (d':=s2'.drawn) (ch:=[T]) ⟨λb o z n hf hx=>?_,λb o z n hf hx=>?_,λ_ _ _ n _=>n,λb o z hx=>?_,λ_ _ z=>z,λ_ _ _ z=>z,λb ps z=>⟨#[],by rw[z];simp⟩⟩ hok3 bare (λb hb=>?_)
   ·exact tn3.keep b o (by simp only[List.mem_cons,List.not_mem_nil,or_false];rintro (rfl|rfl);(rw[he] at n;cases n);exact hx (by simp)) hf z
   ·exact tn3.slot b o (by simp only[List.mem_cons,List.not_mem_nil,or_false];rintro (rfl|rfl);(rw[he] at n;cases n);exact hx (by simp)) z
   ·by_cases y:b=e
    ·rw[y];exact iP x3
    ·obtain ⟨sl,z1⟩:=tn3.slot b o (by simp only[List.mem_cons,List.not_mem_nil,or_false];rintro (rfl|rfl);exact y rfl;exact hx (by simp)) z;exact ⟨_,z1⟩
   ·have y:b=T:=by simpa using hb
    subst y;exact ⟨.inr lT',nTl,λx c q=>(by rw[hcells] at q;cases q),np2⟩
  have J:Inv (X.inExc e) pins σ2 H' { s2' with heap:=h3 }:=I4.inExc e;have lTs:X.s_0.heap.objs.size<=T2:=Nat.le_trans I3.sz lT2;have nT2l:T2≠X.env.locals:=Nat.ne_of_gt (Nat.lt_of_lt_of_le I3.lt lT2)
  have np3:∀ p∈X.pn++pins,p.1≠T2:=λp hp=>by
   obtain ⟨z,_⟩:=I3.pin p hp;exact Nat.ne_of_lt (Nat.lt_of_lt_of_le (Heap.lt_size z) lT2)
  have hT2:H' T2=none:=hok.untracked (Heap.get?_none_of_le lT2);obtain ⟨nm,qn,N,bs,hdct,sn,sub,ab,col,dd,k0,k1,k2,k3,k5,hC,_⟩:=F6 J.kIn M.made;refine wpAny_handleBy_cons (codeAny_handlers_test (jQ (X:=X.inExc e) J hg hm ?_ hdb)) (by intro z;cases z);obtain ⟨vs3,sl3,he3,_,_⟩:=id x3;obtain ⟨hp,g',d',tk',os'⟩:=s2';refine wpAny_excMatches_sub_self (C:=C) hC he3 rfl (by decide) ?_;refine codeAny_handlers_suite_as (LM x3 r3 ne2 λh4 kp4 x4 r4=>?_);have J2:Inv (X.inExc e) pins σ2 H' ⟨h4,g',d',tk',os'⟩:=J.record (T:=T2) kp4 hT2 lTs nT2l hcells np3;refine qD (X:=X.inExc e) (i:=i) (v:=.ref e) J2 hN hi (.inl hloc) rfl (λs5 J5=>?_) (.inl hfn);refine wpAny_mono (hh e pins s5 _ H' _ J5 (q σ2 J2.len)) (λfl s6 z=>?_) λ_ _ z=>z.elim
  cases fl with
  | next=>obtain ⟨_,_,_,z⟩:=z;exact z.elim
  | brk=>obtain ⟨_,_,_,z⟩:=z;exact (show False from z).elim
  | cont=>obtain ⟨_,_,_,z⟩:=z;exact (show False from z).elim
  | ret u=>
   obtain ⟨v,σ6,H6,J6,rv,z⟩:=z;have J7:=J6.unExc I.ok;obtain ⟨m,hn,_⟩:=id J7.loc
   exact wpAny_nameGoes hloc hn hcls λh' m' hn' sb=>⟨v,_,H6,J7.forget hn' sb (λp hp=>List.mem_append_right _ hp) hcells,rv,z⟩
 ·cases fl with
  | next=>exact wpAny_execs_nil (SP.body I.ok q)
  | ret u=>exact SP.body I.ok q
  | brk=>exact SP.body I.ok q
  | cont=>exact SP.body I.ok q
end L2
namespace L2
open PySem PySem.Spec PyProof.Rows XF
structure KH (k:Nat)(A:Around):Prop where
 dp:A.depth+3*k+5<recursionLimit
 un:A.units+16*k+200<cLine
theorem cI.q {k:Nat}{A:Around}(r:cI k A)(h:Option Value):KH k (A.mark h):=⟨r.dp,r.un⟩
structure AC (P:Program)(w:World)(K:PySem.W.Frag)(mg:Str->Option Value)(base:Heap)(k:Nat)(f:Addr)(fd:FuncData)(ps:List Str)(sp:Sp):Prop where
 len:∀ vs H Q E,sp vs H Q E->vs.length=ps.length
 run:∀ (A:Around) (outer:List Env) (s:Shared) (H:Hp) (args:Args) (us:List Value) (vs:List V) (Q:VK) (E:XK),KH k A->xO P w K mg base A outer s H->BindsTo s fd args (ps.zip us)->bH vs us->sp vs H Q E->
  codeAny (model P w) A (.call (.ref f) args) (CR CX0 outer P w H s Q E) s
abbrev cxQ (P:Program)(w:World)(K:PySem.W.Frag)(mg:Str->Option Value)(base:Heap)(N:List Str)(qual:Str)(scope:Scope)(f:Addr)(cd:Value)(A:Around)(outer:List Env)(s:Shared)(H:Hp):Cx:=
 { mQ CX0 P w K mg base N qual scope f cd A outer s H E0 with calm:=false,xe:=λ_ _=>False }
theorem Fun.okQ {P:Program}{w:World}{K:PySem.W.Frag}{mg:Str->Option Value}{base:Heap}{x qual:Str}{st:Stmt}{f:Addr}{fd:FuncData}{N ps:List Str}{k:Nat}{sp:Sp}(F:Fun K x qual st f fd)(S:aO N ps (aI st))(len:∀ vs H Q E,sp vs H Q E->vs.length=ps.length)
  (hbody:∀ (cdv:Value) (A:Around) (outer:List Env) (s:Shared) (H:Hp) (vs:List V) (Q:VK) (E:XK),sp vs H Q E->
   ∃ t,PSs (cxQ P w K mg base N qual (aI st) f cdv A outer s H) (fQ st) t/\t { nx:=λ_ H'=>Q .non H',rt:=Q } (start N vs) H):AC P w K mg base (k+1) f fd ps sp:=by
 obtain ⟨oc,od,kV,doc,pm,an,cdv,ct,osl,rfl,lk,hcd⟩:=F.ex;refine ⟨len,λA outer s H args us vs Q E hr e0 hb r hsp=>?_⟩;have hl:=len _ _ _ _ hsp;have KX:K.In s.heap:=e0.mod.kin.keeps λb o e=>(e0.bs b o e).1;have lim:s.heap.NoLimit:=e0.mod.nolimit.keeps λb o e=>(e0.bs b o e).1
 have hkind:∀ y∈ps.zip us,(aI st).names.lookup y.1=some .local∨((aI st).names.lookup y.1=some .cell/\((cellsFrom (s.heap.objs.size+1) (aI st).names []).lookup y.1).isSome=true):=λ⟨n,v⟩ hy=>by
  rcases S.par n (List.of_mem_zip hy).1 with q|q
  ·exact .inl q
  ·exact .inr ⟨q,PySem.W.cellsFrom_some _ _ _ (.inl q)⟩
 have dep:A.depth<recursionLimit:=by have:=hr.dp;lia
 refine codeAny_call_function dep (KX _ _ lk) rfl S.co S.gen rfl (PySem.W.codeRec_of KX hcd) (hb _ _ _ _ ?_);refine wpAny_newFunctionEnv_cells S.kind hkind λenv he s1 x=>?_;subst he;refine ⟨lim.keeps x.toInCall.keep,codeAny_func ?_⟩;obtain ⟨t,ht,hq⟩:=hbody cdv A outer s H vs Q E hsp
 have e1:xO P w K mg base { A with handled:=none } outer s H:=⟨e0.frames,e0.mod,e0.bs,e0.bsz,e0.funs,e0.frf,e0.hok,e0.bare⟩
 have I0:Inv (mQ CX0 P w K mg base N qual (aI st) f cdv { A with handled:=none } outer s H E0) [] (start N vs) H s1:=wP S rfl e1 hl r x
 have ok:(cxQ P w K mg base N qual (aI st) f cdv A outer s H).Ok:=⟨I0.ok.mod,I0.ok.kind,I0.ok.glob,I0.ok.blt,I0.ok.above,I0.ok.inj,I0.ok.has,I0.ok.cab,(λz=>nomatch z),Around.frames_deeper e0.frames,I0.ok.stk,I0.ok.exf,I0.ok.bs,I0.ok.bsz,I0.ok.noex,I0.ok.exfs,I0.ok.funs,I0.ok.frf⟩
 have I:Inv (cxQ P w K mg base N qual (aI st) f cdv A outer s H) [] (start N vs) H s1:=⟨ok,I0.os,I0.bare,I0.base,I0.loc,I0.cell,I0.free,I0.freeC,I0.pin,I0.hok,I0.len⟩
 refine wpAny_mono (ht [] s1 (start N vs) H _ I hq) (λfl s' hs=>?_) λe s' hs=>hs.elim
 have fin:∀ {σ':St} {H':Hp} {v:V} {u:Value},Inv (cxQ P w K mg base N qual (aI st) f cdv A outer s H) [] σ' H' s'->bP v u->Q v H'->CE outer P w H s Q u s':=
  λ{σ' H' v u} J rv q=>⟨v,H',J.os,J.bare,J.base,J.hok,rv,q⟩
 cases fl with
 | ret u=>
  obtain ⟨v,σ',H',J,rv,q⟩:=hs;exact fin J rv q
 | next=>
  obtain ⟨σ',H',J,q⟩:=hs;exact fin (v:=V.non) (u:=Value.none) J rfl q
 | brk=>
  obtain ⟨_,_,_,q⟩:=hs;exact False.elim q
 | cont=>
  obtain ⟨_,_,_,q⟩:=hs;exact False.elim q
theorem BM {X:Cx}{k:Nat}{f:Addr}{fd:FuncData}{ps:List Str}{sp:Sp}{x:Str}{p pos:Pos}{e:Expr}{es:List Expr}{t:TA}(F:AC X.prog X.w X.K X.mg X.base k f fd ps sp)(hr:KH k X.A)(hg:Gl X x)(hm:X.mg x=some (.ref f))(hk:PySem.W.keepIn X.K (.ref f)=true)(hb:cZ X.K fd ps [])
  (ha:PA X (e::es) t) (hdb:(x==("__debug__" : Str))=false:=by decide) (he:starEach (e::es) X.env=(false,eval e X.env)::starEach es X.env:=by rfl) (hpl:(backTo pos (starEach es X.env)).any (·.1)=false:=by rfl):
  PE X (.Call (.Name x p) (e::es) [] pos) (HV sp [] E0 t):=by
 intro pins s σ H Q I h;refine wpAny_Call_Name_kw (jQ I hg hm ?_ hdb);refine PySem.W.callWith_K (h₀:=X.base) I.ok.mod.kin hk (thn (ha pos pins s σ H _ I h) λus s1 ⟨vs,H1,I1,r,q⟩=>⟨I1.kIn,?_⟩) he hpl
 replace q:sp vs H1 Q E0:=by have z:sp (vs++[]) H1 Q E0:=q;rwa [List.append_nil] at z
 have hl:(us++[]).length=ps.length:=by rw[List.append_nil,← r.length];exact F.len _ _ _ _ q
 refine wpAny_call (codeAny_mono (F.run X.A X.stack s1 H1 ⟨us,[]⟩ us vs Q E0 hr I1.env0 (by have:=hb s1 us I1.kIn hl;rwa [List.append_nil] at this) r q) λr s' hq=>?_)
 cases r with
 | error e=>exact False.elim hq
 | ok fl=>
  cases fl with
  | ret u=>exact I1.after hq
  | next=>exact False.elim hq
  | brk=>exact False.elim hq
  | cont=>exact False.elim hq
end L2
section
namespace L2
open PySem PySem.Spec PyProof.Rows
open PySem.W (WData Codec OpenSpec Well WellAll ReadsW ReadsAllW)
mutual
inductive Dw (K:PySem.W.Frag) (H:Hp):V->WData->Prop
 | non:Dw K H .non .none
 | bl (b:Bool):Dw K H (.bl b) (.bool b)
 | int (i:Int):Dw K H (.int i) (.int i)
 | str (x:Str):Dw K H (.str x) (.str x)
 | byt (b:Array UInt8):Dw K H (.byt b) (.bytes b.toList)
 | lst {a:Addr} {xs:List V} {ds:List WData}:SqL K H a xs->kK K H xs ds->Dw K H (.ref a) (.list ds)
 | tup {a:Addr} {xs:List V} {ds:List WData}:SqT K H a xs->kK K H xs ds->Dw K H (.ref a) (.tuple ds)
inductive kK (K:PySem.W.Frag) (H:Hp):List V->List WData->Prop
 | nil:kK K H [] []
 | cons {v:V} {vs:List V} {d:WData} {ds:List WData}:Dw K H v d->kK K H vs ds->kK K H (v::vs) (d::ds)
end
theorem FQ {K:PySem.W.Frag}{H:Hp}:∀ ns:List Int,kK K H (ns.map V.int) (ns.map WData.int)
 | []=>.nil
 | n::r=>.cons (.int n) (FQ r)
theorem FY {K:PySem.W.Frag}{H:Hp}:∀ (ns:List Int) (xs:List V),kK K H xs (ns.map WData.int)->xs=ns.map V.int
 | [],xs,h=>by
  cases h;rfl
 | n::r,xs,h=>by
  cases h with
  | cons h1 h2=>
   cases h1;rw[FY r _ h2]<;>rfl
section
variable {P:Program}{w:World}{K:PySem.W.Frag}{H:Hp}{h:Heap}{R:PySem.W.WRecords}{cl:Str->Option Addr}
theorem U9 {a:Addr}{xs:List V}(hok:HOk P w H h)(KX:K.In h)(q:SqL K H a xs):∃ (its:List Value) (o:Obj) (n:Nat),bH xs its/\h.get? a=some o/\o.cls=.type "list" /\ o.data=.seq its.toArray n:=by
 rcases q with q|⟨o,its,n,e,hc,_,hd,_,hv⟩
 ·obtain ⟨_,its,n,hv,e⟩:=(show c9 P w H h a (.lst xs) from q.ok hok)
  exact ⟨its,_,n,hv,e,rfl,rfl⟩
 ·exact ⟨its.toList,o,n,hv,KX _ _ e,hc,by simp[hd]⟩
theorem UA {a:Addr}{xs:List V}(hok:HOk P w H h)(KX:K.In h)(q:SqT K H a xs):∃ (its:List Value) (o:Obj) (n:Nat),bH xs its/\h.get? a=some o/\o.cls=.type "tuple" /\ o.data=.seq its.toArray n:=by
 rcases q with q|⟨o,its,n,e,hc,hd,_,hv⟩
 ·obtain ⟨_,its,hv,o,e,hc,n,hd⟩:=(show c9 P w H h a (.tup xs) from q.ok hok)
  exact ⟨its,o,n,hv,e,hc,hd⟩
 ·exact ⟨its.toList,o,n,hv,KX _ _ e,hc,by simp[hd]⟩
mutual
theorem Dw.reads (hok:HOk P w H h)(KX:K.In h):∀ (d:WData) (v:V) (u:Value),Dw K H v d->bP v u->∃ as,ReadsW R cl h u d as
 | .none,_,_,x,r=>by
  cases x;cases r;exact ⟨_,ReadsW.none⟩
 | .bool b,_,_,x,r=>by
  cases x;cases r;exact ⟨_,ReadsW.bool b⟩
 | .int i,_,_,x,r=>by
  cases x;obtain ⟨t,rfl⟩:=r;exact ⟨_,ReadsW.int i t⟩
 | .str s,_,_,x,r=>by
  cases x;obtain ⟨t,rfl⟩:=r;exact ⟨_,ReadsW.str s t⟩
 | .bytes b,_,_,x,r=>by
  cases x;obtain ⟨t,rfl⟩:=r;exact ⟨_,ReadsW.bytes _ t⟩
 | .list ds,_,_,x,r=>by
  cases x with
  | lst hs ha=>
   cases r;obtain ⟨its,o,n,rv,ho,hc,hd⟩:=U9 hok KX hs;obtain ⟨as,hr⟩:=Dw.readsAll hok KX ds _ its ha rv;exact ⟨_,ReadsW.list ho hc hd hr⟩
 | .tuple ds,_,_,x,r=>by
  cases x with
  | tup hs ha=>
   cases r;obtain ⟨its,o,n,rv,ho,hc,hd⟩:=UA hok KX hs;obtain ⟨as,hr⟩:=Dw.readsAll hok KX ds _ its ha rv;exact ⟨_,ReadsW.tuple ho hc hd hr⟩
 | .float _,_,_,x,_=>by cases x
 | .dict _,_,_,x,_=>by cases x
 | .bytearray _,_,_,x,_=>by cases x
 | .set _,_,_,x,_=>by cases x
 | .frozenset _,_,_,x,_=>by cases x
 | .obj _ _,_,_,x,_=>by cases x
theorem Dw.readsAll (hok:HOk P w H h)(KX:K.In h):∀ (ds:List WData) (vs:List V) (us:List Value),kK K H vs ds->bH vs us->∃ as,ReadsAllW R cl h us ds as
 | [],_,_,x,r=>by
  cases x;cases r;exact ⟨_,ReadsAllW.nil⟩
 | d::ds,_,_,x,r=>by
  cases x with
  | cons h1 h2=>
   cases r with
   | cons r1 r2=>
    obtain ⟨as,q1⟩:=Dw.reads hok KX d _ _ h1 r1;obtain ⟨bs,q2⟩:=Dw.readsAll hok KX ds _ _ h2 r2;exact ⟨_,ReadsAllW.cons q1 q2⟩
end
end
mutual
def plW:WData->Bool
 | .none=>true
 | .bool _=>true
 | .int _=>true
 | .str _=>true
 | .bytes _=>true
 | .list xs=>sQ xs
 | .tuple xs=>sQ xs
 | _=>false
def sQ:List WData->Bool
 | []=>true
 | x::r=>plW x&&sQ r
end
theorem BR {α:Type}{f:α->WData}(h:∀ a,plW (f a)=true):∀ l:List α,sQ (l.map f)=true
 | []=>rfl
 | x::r=>by
  show (plW (f x)&&sQ (r.map f))=true;rw[h x,BR h r]<;>rfl
theorem lC:∀ (c:Codec) (a:c.denote),plW (c.enc a)=true
 | .unit,_=>rfl
 | .bool,_=>rfl
 | .int _ _,_=>rfl
 | .nat _ _,_=>rfl
 | .u8,_=>rfl
 | .bytes _ _,_=>rfl
 | .text _ _ _ _,_=>rfl
 | .list _ _ c,a=>BR (λx=>lC c x) a
 | .pair c d,a=>by
  show (plW (c.enc a.1)&&(plW (d.enc a.2)&&true))=true;rw[lC c a.1,lC d a.2]<;>rfl
 | .triple c d e,a=>by
  show (plW (c.enc a.1)&&(plW (d.enc a.2.1)&&(plW (e.enc a.2.2)&&true)))=true;rw[lC c a.1,lC d a.2.1,lC e a.2.2]<;>rfl
 | .option c,none=>rfl
 | .option c,some x=>lC c x
theorem xC:∀ (cs:List Codec) (a:Codec.denoteAll cs),sQ (Codec.encAll cs a)=true
 | [],_=>rfl
 | c::cs,a=>by
  show (plW (c.enc a.1)&&sQ (Codec.encAll cs a.2))=true;rw[lC c a.1,xC cs a.2]<;>rfl
theorem oI:∀ {xs:List WData} {d:WData},d∈xs->d.weight<=WData.weightAll xs
 | [],d,h=>absurd h (by simp)
 | x::r,d,h=>by
  show d.weight<=x.weight+1+WData.weightAll r
  rcases List.mem_cons.mp h with e|m
  ·rw[e];lia
  ·have z:=oI m;lia
def toV:Value->V
 | .none=>.non
 | .bool b=>.bl b
 | .int i _=>.int i
 | .str x _=>.str x
 | .bytes b _=>.byt b
 | .ref a=>.ref a
 | _=>.non
def OkU (A:List Addr):Value->Prop
 | .none=>True
 | .bool _=>True
 | .int _ _=>True
 | .str _ _=>True
 | .bytes _ _=>True
 | .ref a=>a∈A
 | _=>False
theorem OkU.mono {A B:List Addr}(h:∀ a∈A,a∈B):∀ {u:Value},OkU A u->OkU B u:=λ{u} x=>by
 cases u with
 | ref a=>exact h a x
 | none=>trivial
 | bool b=>trivial
 | int i t=>trivial
 | str s t=>trivial
 | bytes b t=>trivial
 | _=>exact False.elim x
theorem MW {A:List Addr}{u:Value}(x:OkU A u):bP (toV u) u:=by
 cases u with
 | ref a=>rfl
 | none=>rfl
 | bool b=>rfl
 | int i t=>exact ⟨t,rfl⟩
 | str s t=>exact ⟨t,rfl⟩
 | bytes b t=>exact ⟨t,rfl⟩
 | _=>exact False.elim x
theorem jF {A:List Addr}:∀ {vs:List Value},(∀ u∈vs,OkU A u)->bH (vs.map toV) vs
 | [],_=>.nil
 | u::r,h=>.cons (MW (h u (List.mem_cons_self ..))) (jF λx hx=>h x (List.mem_cons_of_mem _ hx))
def kJ (h:Heap)(A:List Addr)(a:Addr):Prop:=∃ vs:List Value,vs.length<=sizeLine/\(∀ u∈vs,OkU A u)/\
 (h.get? a=some { cls:=.type "list",data:=.seq vs.toArray }∨h.get? a=some { cls:=.type "tuple",data:=.seq vs.toArray })
theorem kJ.mono {h:Heap}{A B:List Addr}{a:Addr}(k:∀ a∈A,a∈B)(x:kJ h A a):kJ h B a:=by
 obtain ⟨vs,h1,h2,h3⟩:=x;exact ⟨vs,h1,λu hu=>(h2 u hu).mono k,h3⟩
theorem iE {P:Params}{h:Heap}:∀ {vs:List Value} {ds:List WData},WellAll P h vs ds->vs.length=ds.length
 | _,_,.nil=>rfl
 | _,_,.cons _ b=>by
  show _+1=_+1;rw[iE b]
theorem xM {P:Params}{h:Heap}{v:Value}{ds:List WData}(x:Well P h v (.list ds)):∃ (a:Addr) (vs:List Value),v=.ref a/\h.get? a=some { cls:=.type "list",data:=.seq vs.toArray }/\WellAll P h vs ds:=by
 cases x with
 | list ho hall=>exact ⟨_,_,rfl,ho,hall⟩
theorem vR {P:Params}{h:Heap}{v:Value}{ds:List WData}(x:Well P h v (.tuple ds)):∃ (a:Addr) (vs:List Value),v=.ref a/\h.get? a=some { cls:=.type "tuple",data:=.seq vs.toArray }/\WellAll P h vs ds:=by
 cases x with
 | tuple ho hall=>exact ⟨_,_,rfl,ho,hall⟩
theorem xL {P:Params}{h:Heap}{us:List Value}{d:WData}{ds:List WData}(x:WellAll P h us (d::ds)):∃ (v:Value) (vs:List Value),us=v::vs/\Well P h v d/\WellAll P h vs ds:=by
 cases x with
 | cons a b=>exact ⟨_,_,rfl,a,b⟩
theorem G9 {n:Nat}(h:n<=1048576):n<=sizeLine:=Nat.le_trans h (by decide)
section
variable {P:Params}{h:Heap}
mutual
theorem KN:∀ (d:WData) (v:Value),Well P h v d->plW d=true->d.weight<=1048576->∃ A:List Addr,OkU A v/\∀ a∈A,kJ h A a
 | .none,_,x,_,_=>by
  cases x;exact ⟨[],trivial,λa m=>absurd m (by simp)⟩
 | .bool b,_,x,_,_=>by
  cases x;exact ⟨[],trivial,λa m=>absurd m (by simp)⟩
 | .int i,_,x,_,_=>by
  cases x;exact ⟨[],trivial,λa m=>absurd m (by simp)⟩
 | .str s,_,x,_,_=>by
  cases x;exact ⟨[],trivial,λa m=>absurd m (by simp)⟩
 | .bytes b,_,x,_,_=>by
  cases x;exact ⟨[],trivial,λa m=>absurd m (by simp)⟩
 | .list ds,_,x,p,z=>by
  obtain ⟨a,vs,rfl,ho,hall⟩:=xM x;have z2:WData.weightAll ds<=1048576:=z;obtain ⟨A,h1,h2⟩:=oR ds _ hall p λd hd=>Nat.le_trans (oI hd) z2;have k:∀ b∈A,b∈a::A:=λb hb=>List.mem_cons_of_mem _ hb;refine ⟨a::A,List.mem_cons_self ..,λb hb=>?_⟩
  rcases List.mem_cons.mp hb with e|m
  ·rw[e];exact ⟨vs,G9 (by rw[iE hall];exact Nat.le_trans (PySem.W.length_le_weightAllW ds) z2),λu hu=>(h1 u hu).mono k,.inl ho⟩
  ·exact (h2 b m).mono k
 | .tuple ds,_,x,p,z=>by
  obtain ⟨a,vs,rfl,ho,hall⟩:=vR x;have z2:WData.weightAll ds<=1048576:=z;obtain ⟨A,h1,h2⟩:=oR ds _ hall p λd hd=>Nat.le_trans (oI hd) z2;have k:∀ b∈A,b∈a::A:=λb hb=>List.mem_cons_of_mem _ hb;refine ⟨a::A,List.mem_cons_self ..,λb hb=>?_⟩
  rcases List.mem_cons.mp hb with e|m
  ·rw[e];exact ⟨vs,G9 (by rw[iE hall];exact Nat.le_trans (PySem.W.length_le_weightAllW ds) z2),λu hu=>(h1 u hu).mono k,.inr ho⟩
  ·exact (h2 b m).mono k
 | .float _,_,_,p,_=>Bool.noConfusion (show false=true from p)
 | .dict _,_,_,p,_=>Bool.noConfusion (show false=true from p)
 | .bytearray _,_,_,p,_=>Bool.noConfusion (show false=true from p)
 | .set _,_,_,p,_=>Bool.noConfusion (show false=true from p)
 | .frozenset _,_,_,p,_=>Bool.noConfusion (show false=true from p)
 | .obj _ _,_,_,p,_=>Bool.noConfusion (show false=true from p)
theorem oR:∀ (ds:List WData) (vs:List Value),WellAll P h vs ds->sQ ds=true->(∀ d∈ds,d.weight<=1048576)->∃ A:List Addr,(∀ u∈vs,OkU A u)/\∀ a∈A,kJ h A a
 | [],_,x,_,_=>by
  cases x;exact ⟨[],λu m=>absurd m (by simp),λa m=>absurd m (by simp)⟩
 | d::ds,_,x,p,z=>by
  obtain ⟨v,vs,rfl,x1,x2⟩:=xL x;have q:plW d=true/\sQ ds=true:=Bool.and_eq_true_iff.mp p;obtain ⟨A,a1,a2⟩:=KN d v x1 q.1 (z d (List.mem_cons_self ..));obtain ⟨B,b1,b2⟩:=oR ds vs x2 q.2 λe he=>z e (List.mem_cons_of_mem _ he);have kA:∀ b∈A,b∈A++B:=λb hb=>List.mem_append.mpr (.inl hb);have kB:∀ b∈B,b∈A++B:=λb hb=>List.mem_append.mpr (.inr hb);refine ⟨A++B,λu hu=>?_,λb hb=>?_⟩
  ·rcases List.mem_cons.mp hu with e|m
   ·rw[e];exact a1.mono kA
   ·exact (b1 u m).mono kB
  ·rcases List.mem_append.mp hb with m|m
   ·exact (a2 b m).mono kA
   ·exact (b2 b m).mono kB
end
end
def OW (o:Obj):Option HO:=match o.data with
 | .seq vs _=>if (o.cls==Value.type "list")=true then some (.frz o (.lst (vs.toList.map toV))) else some (.frz o (.tup (vs.toList.map toV)))
 | _=>none
def jI (K:PySem.W.Frag)(h:Heap)(A:List Addr):Hp:=λb=>if b∈A then (if (K.lookup b).isNone=true then (h.get? b).bind OW else none) else none
def AF (H:Hp):Prop:=∀ b,H b=none∨∃ o u,H b=some (.frz o u)
theorem AW (vs:List Value):OW { cls:=.type "list",data:=.seq vs.toArray }=some (.frz { cls:=.type "list",data:=.seq vs.toArray } (.lst (vs.map toV))):=by
 show (if (Value.type "list" == Value.type "list")=true then some (HO.frz { cls:=.type "list",data:=.seq vs.toArray } (.lst (vs.toArray.toList.map toV))) else some (HO.frz { cls:=.type "list",data:=.seq vs.toArray } (.tup (vs.toArray.toList.map toV))))=_;rw[if_pos (beq_self_eq_true _)]
theorem AX (vs:List Value):OW { cls:=.type "tuple",data:=.seq vs.toArray }=some (.frz { cls:=.type "tuple",data:=.seq vs.toArray } (.tup (vs.map toV))):=by
 show (if (Value.type "tuple" == Value.type "list")=true then some (HO.frz { cls:=.type "tuple",data:=.seq vs.toArray } (.lst (vs.toArray.toList.map toV))) else some (HO.frz { cls:=.type "tuple",data:=.seq vs.toArray } (.tup (vs.toArray.toList.map toV))))=_;rw[if_neg (by decide)]
section
variable {P:Program}{w:World}{K:PySem.W.Frag}{h:Heap}{A:List Addr}
theorem sS {b:Addr}{o:Obj}(hb:b∈A)(hk:K.lookup b=none)(e:h.get? b=some o):jI K h A b=OW o:=by
 unfold jI;rw[if_pos hb,hk,if_pos (show (none:Option Obj).isNone=true from rfl),e]<;>rfl
theorem P7 {b:Addr}{u:HO}(q:jI K h A b=some u):b∈A/\K.lookup b=none:=by
 unfold jI at q
 by_cases hb:b∈A
 ·rw[if_pos hb] at q
  cases hk:K.lookup b with
  | none=>exact ⟨hb,rfl⟩
  | some o=>
   rw[hk,if_neg (by simp)] at q;cases q
 ·rw[if_neg hb] at q;cases q
theorem sT (ar:∀ a∈A,kJ h A a){b:Addr}{u:HO}(q:jI K h A b=some u):K.lookup b=none/\∃ vs:List Value,vs.length<=sizeLine/\(∀ u∈vs,OkU A u)/\
  ((h.get? b=some { cls:=.type "list",data:=.seq vs.toArray }/\u=.frz { cls:=.type "list",data:=.seq vs.toArray } (.lst (vs.map toV)))∨
   (h.get? b=some { cls:=.type "tuple",data:=.seq vs.toArray }/\u=.frz { cls:=.type "tuple",data:=.seq vs.toArray } (.tup (vs.map toV)))):=by
 obtain ⟨hb,hk⟩:=P7 q;obtain ⟨vs,h1,h2,h3⟩:=ar b hb;refine ⟨hk,vs,h1,h2,?_⟩
 rcases h3 with e|e
 ·rw[sS hb hk e,AW] at q;exact .inl ⟨e,(Option.some.inj q).symm⟩
 ·rw[sS hb hk e,AX] at q;exact .inr ⟨e,(Option.some.inj q).symm⟩
theorem IE (ar:∀ a∈A,kJ h A a):AF (jI K h A):=λb=>by
 cases q:jI K h A b with
 | none=>exact .inl rfl
 | some u=>
  obtain ⟨_,vs,_,_,⟨_,e⟩|⟨_,e⟩⟩:=sT ar q
  ·exact .inr ⟨_,_,by rw[e]⟩
  ·exact .inr ⟨_,_,by rw[e]⟩
theorem OK (ar:∀ a∈A,kJ h A a):HOk P w (jI K h A) h:=λb u q=>by
 obtain ⟨_,vs,h1,h2,⟨e,rfl⟩|⟨e,rfl⟩⟩:=sT ar q
 ·exact ⟨e,by rw[List.length_map];exact h1,vs,_,jF h2,e⟩
 ·exact ⟨e,by rw[List.length_map];exact h1,vs,jF h2,_,e,rfl,_,rfl⟩
theorem sZ {c c':Value}{vs us:List Value}(e:(some { cls:=c,data:=.seq vs.toArray }:Option Obj)=some { cls:=c',data:=.seq us.toArray }):c=c'/\vs=us:=by
 have e1:=Option.some.inj e;have e2:c=c':=congrArg Obj.cls e1;have e3:Data.seq vs.toArray=Data.seq us.toArray:=congrArg Obj.data e1
 injection e3 with e4
 refine ⟨e2,?_⟩;have e5:=congrArg Array.toList e4;simpa using e5
theorem argL (KX:K.In h)(ar:∀ a∈A,kJ h A a){a:Addr}{vs:List Value}(ha:a∈A)(e:h.get? a=some { cls:=.type "list",data:=.seq vs.toArray }):(∀ u∈vs,OkU A u)/\SqL K (jI K h A) a (vs.map toV):=by
 obtain ⟨us,h1,h2,h3⟩:=ar a ha
 have hu:us=vs:=by
  rcases h3 with q|q
  ·rw[e] at q;exact (sZ q).2.symm
  ·rw[e] at q;exact absurd (Value.type.inj (sZ q).1) (by decide)
 subst hu;refine ⟨h2,?_⟩
 cases hk:K.lookup a with
 | none=>exact .inl (.inr ⟨_,by rw[sS ha hk e,AW]⟩)
 | some o=>
  have e2:=KX a o hk;rw[e] at e2;obtain rfl:=Option.some.inj e2;exact .inr ⟨_,us.toArray,_,hk,rfl,rfl,rfl,by rw[List.size_toArray];exact h1,by simpa using jF h2⟩
theorem argT (KX:K.In h)(ar:∀ a∈A,kJ h A a){a:Addr}{vs:List Value}(ha:a∈A)(e:h.get? a=some { cls:=.type "tuple",data:=.seq vs.toArray }):(∀ u∈vs,OkU A u)/\SqT K (jI K h A) a (vs.map toV):=by
 obtain ⟨us,h1,h2,h3⟩:=ar a ha
 have hu:us=vs:=by
  rcases h3 with q|q
  ·rw[e] at q;exact absurd (Value.type.inj (sZ q).1) (by decide)
  ·rw[e] at q;exact (sZ q).2.symm
 subst hu;refine ⟨h2,?_⟩
 cases hk:K.lookup a with
 | none=>exact .inl (.inr ⟨_,by rw[sS ha hk e,AX]⟩)
 | some o=>
  have e2:=KX a o hk;rw[e] at e2;obtain rfl:=Option.some.inj e2;exact .inr ⟨_,us.toArray,_,hk,rfl,rfl,by rw[List.size_toArray];exact h1,by simpa using jF h2⟩
mutual
theorem SI {Pm:Params}(KX:K.In h)(ar:∀ a∈A,kJ h A a):∀ (d:WData) (v:Value),Well Pm h v d->plW d=true->OkU A v->Dw K (jI K h A) (toV v) d
 | .none,_,x,_,_=>by
  cases x;exact .non
 | .bool b,_,x,_,_=>by
  cases x;exact .bl b
 | .int i,_,x,_,_=>by
  cases x;exact .int i
 | .str s,_,x,_,_=>by
  cases x;exact .str s
 | .bytes b,_,x,_,_=>by
  cases x;have z:=Dw.byt (K:=K) (H:=jI K h A) b.toArray;exact z
 | .list ds,_,x,p,hu=>by
  obtain ⟨a,vs,rfl,ho,hall⟩:=xM x;obtain ⟨h2,hs⟩:=argL KX ar hu ho;exact .lst hs (y0 KX ar ds _ hall p h2)
 | .tuple ds,_,x,p,hu=>by
  obtain ⟨a,vs,rfl,ho,hall⟩:=vR x;obtain ⟨h2,hs⟩:=argT KX ar hu ho;exact .tup hs (y0 KX ar ds _ hall p h2)
 | .float _,_,_,p,_=>Bool.noConfusion (show false=true from p)
 | .dict _,_,_,p,_=>Bool.noConfusion (show false=true from p)
 | .bytearray _,_,_,p,_=>Bool.noConfusion (show false=true from p)
 | .set _,_,_,p,_=>Bool.noConfusion (show false=true from p)
 | .frozenset _,_,_,p,_=>Bool.noConfusion (show false=true from p)
 | .obj _ _,_,_,p,_=>Bool.noConfusion (show false=true from p)
theorem y0 {Pm:Params}(KX:K.In h)(ar:∀ a∈A,kJ h A a):∀ (ds:List WData) (vs:List Value),WellAll Pm h vs ds->sQ ds=true->(∀ u∈vs,OkU A u)->kK K (jI K h A) (vs.map toV) ds
 | [],_,x,_,_=>by
  cases x;exact .nil
 | d::ds,_,x,p,hu=>by
  obtain ⟨v,vs,rfl,x1,x2⟩:=xL x;have q:plW d=true/\sQ ds=true:=Bool.and_eq_true_iff.mp p;exact .cons (SI KX ar d v x1 q.1 (hu _ (List.mem_cons_self ..))) (y0 KX ar ds vs x2 q.2 λu m=>hu u (List.mem_cons_of_mem _ m))
end
end
theorem JV {P:Program}{w:World}{K:PySem.W.Frag}{mg mb:Str->Option Value}{CX:CXT}{k:Nat}{fa:Addr}{fd:FuncData}{ps:List Str}{sp:Sp}{s₁:Shared}{vals:List Value}{ds:List WData}{R:PySem.W.WRecords}{cl:Str->Option Addr}{d0:WData}
  (KX:K.In s₁.heap) (hns:s₁.heap.Ns mainGlobals mg) (hb:s₁.heap.Ns builtinsNs mb) (hbb:∀ x:Str,x ≠ "__name__" -> mb x=bootBuiltins x) (hlim:s₁.heap.NoLimit) (hg:s₁.gens=#[])
  (hwl:WellAll w.params s₁.heap vals ds) (hpl:sQ ds=true) (hwt:∀ d∈ds,d.weight<=1048576) (hr:cI k callerA)
  (F:∀ base:Heap,K.In base->base.Ns mainGlobals mg->aN P w K mg base CX k fa fd ps sp) (hbind:∀ (s:Shared) (us:List Value),us.length=ps.length->BindsTo s fd ⟨us,[]⟩ (ps.zip us)) (hlen:ds.length=ps.length)
  (hsp:∀ (H:Hp) (xs:List V),AF H->kK K H xs ds->sp xs H (λv H'=>Dw K H' v d0) λ_ _ _=>False)
  (hCX:∀ H e s',CX [] H s₁ (λ_ _ _=>False) e s'->False):
  codeAny (model P w) callerA (.call (.ref fa) ⟨vals,[]⟩) (λr s'=>∃ u as,r=.ok (.ret u)/\ReadsW R cl s'.heap u d0 as/\OldK s₁.heap s'.heap/\s'.os=s₁.os/\AllBare s'.gens) s₁:=by
 obtain ⟨A,ho,ar⟩:=oR ds vals hwl hpl hwt;have hO:AF (jI K s₁.heap A):=IE ar;have hok:HOk P w (jI K s₁.heap A) s₁.heap:=OK ar;have hS:=y0 KX ar ds vals hwl hpl ho;have hV:=jF ho;have hK:∀ b u,jI K s₁.heap A b=some u->K.lookup b=none:=λb u q=>(sT ar q).1
 have noA:∀ {b:Addr} {o:Obj} {es:Array DictEntry} {ep:Nat},s₁.heap.get? b=some o->o.data=.dict es ep->jI K s₁.heap A b=none:=λ{b o es ep} e d=>by
  cases q:jI K s₁.heap A b with
  | none=>rfl
  | some u=>
   obtain ⟨_,vs,_,_,⟨e2,_⟩|⟨e2,_⟩⟩:=sT ar q
   ·rw[e2] at e;cases e;have d':Data.seq vs.toArray _=Data.dict es ep:=d;cases d'
   ·rw[e2] at e;cases e;have d':Data.seq vs.toArray _=Data.dict es ep:=d;cases d'
 generalize jI K s₁.heap A=H at hO hok hS hK noA;have base_of:∀ {b:Addr} {o:Obj},s₁.heap.get? b=some o->H b=none->(yB s₁.heap H).get? b=some o:=λe n=>LJ e n
 have nsK:∀ {b:Addr} {m:Str->Option Value},s₁.heap.Ns b m->(yB s₁.heap H).Ns b m:=λ{b m} ⟨o,es,ep,e,d,r⟩=>⟨o,es,ep,base_of e (noA e d),d,r⟩
 have nK:∀ b o,K.lookup b=some o->H b=none:=λb o e=>by
  cases q:H b with
  | none=>rfl
  | some u=>
   rw[hK b u q] at e;cases e
 have hKb:K.In (yB s₁.heap H):=λb o e=>base_of (KX b o e) (nK b o e)
 have hM:Mod K mg (yB s₁.heap H):=⟨hKb,nsK hns,⟨mb,nsK hb,hbb⟩,let ⟨mc,h1,h2⟩:=hlim;⟨mc,nsK h1,h2⟩⟩
 have e0:xO P w K mg (yB s₁.heap H) callerA [] s₁ H:=⟨rfl,hM,λb o e=>P8 e,Nat.le_of_eq (IP _ _),trivial,λb hb=>absurd (show b∈([]:List Addr) from hb) (by simp),hok,.of_eq hg⟩
 have hl:vals.length=ps.length:=by rw[iE hwl];exact hlen
 refine codeAny_mono ((F _ hKb (nsK hns)).run callerA [] s₁ H ⟨vals,[]⟩ vals (vals.map toV) _ _ hr e0 (hbind s₁ vals hl) hV (hsp H _ hO hS)) λr s' x=>?_
 cases r with
 | error e=>exact (hCX H e s' x).elim
 | ok fl=>
  cases fl with
  | next=>exact False.elim x
  | brk=>exact False.elim x
  | cont=>exact False.elim x
  | ret u=>
   obtain ⟨v,H',os,bare,un,hok',r',q⟩:=x
   have kept:∀ b o,s₁.heap.get? b=some o->s'.heap.get? b=some o:=λb o e=>by
    cases q2:H b with
    | none=>exact un.keep b o e q2 (by intro z;exact absurd (show b∈([]:List Addr) from z) (by simp)) (by simp)
    | some u2=>
     rcases hO b with z|⟨ob,u3,z⟩
     ·rw[q2] at z;cases z
     ·have z2:=un.frzs b ob _ z;obtain ⟨e1,_⟩:=hok b _ z;obtain ⟨e2,_⟩:=hok' b _ z2;rw[e] at e1;cases e1;exact e2
   have KX':K.In s'.heap:=λb o e=>kept b o (KX b o e);obtain ⟨as,hrd⟩:=Dw.reads (R:=R) (cl:=cl) hok' KX' d0 v u q r';exact ⟨u,as,rfl,hrd,OldK.of_keep kept,os,bare⟩
theorem uB {ds:List WData}(h:WData.layableAll ds=true):∀ d∈ds,d.weight<=1048576:=λd hd=>
 (PySem.W.layableW_iff.mp (List.all_eq_true.mp h d hd)).2.2
theorem tV:∀ (cs:List Codec) (a:Codec.denoteAll cs),(Codec.encAll cs a).length=cs.length
 | [],_=>rfl
 | c::cs,a=>by
  show (Codec.encAll cs a.2).length+1=cs.length+1;rw[tV cs a.2]
theorem K5 {r:OpenSpec}{k:Nat}{q:Program}{loose:List Str}{XP:(Str->Option Value)->Heap->Prop}{YP:World->Heap->Prop}{d:DefRec}{K:Params->PySem.W.Frag}{CX:World->CXT}{ps:List Str}{sp:World->Sp}
  (hwell:r.wellSaid=true) (hdf:d.params.defaults=[]) (hlen:r.args.length=ps.length) (hr:cI k callerA)
  (hY:∀ (w:World) (h:Heap),YP w h->(K w.params).In h)
  (F:∀ (w:World) (mg:Str->Option Value) (fa:Addr) (h:Heap),YP w h->(K w.params).In h->h.Ns mainGlobals mg->mg d.name=some (.ref fa)->
   ∃ fd:FuncData,(∀ (s:Shared) (us:List Value),us.length=ps.length->BindsTo s fd ⟨us,[]⟩ (ps.zip us))/\
    ∀ base:Heap,(K w.params).In base->base.Ns mainGlobals mg->aN r.prog w (K w.params) mg base (CX w) k fa fd ps (sp w))
  (hsp:∀ (w:World) (H:Hp) (xs:List V) (a:Codec.denoteAll r.args),AF H->Codec.withinAll r.args a=true->Codec.app r.args r.asked a=true->kK (K w.params) H xs (Codec.encAll r.args a)->
   sp w xs H (λv H'=>Dw (K w.params) H' v (r.ret.enc (Codec.app r.args r.f a))) λ_ _ _=>False)
  (hCX:∀ (w:World) (H:Hp) (s:Shared) (e:Value) (s':Shared),CX w [] H s (λ_ _ _=>False) e s'->False):
  PySem.W.WalkOS q loose XP YP r d [] (λf vs=>PySem.call f vs):=by
 intro w s_0 s₁ mg mb G Y fa o pm cd doc dV kV ho hd hcd hD hmg hg args vals as hpre hlay hrd hwl hlo;obtain ⟨a,e1,e2⟩:=PySem.W.os_pre_some hpre;obtain ⟨e3,hwi⟩:=Codec.encAll_of_decAll r.args args a e1;subst e3;have KX:=hY w _ Y;obtain ⟨fd,hb,hF⟩:=F w mg fa _ Y KX G.T.g hmg
 refine PySem.W.enter_call (codeAny_mono (JV (R:=[]) (cl:=classAt s_0.heap) (d0:=r.ret.enc (Codec.app r.args r.f a)) KX G.T.g G.T.b G.T.builtins G.T.nolimit hg hwl (xC _ _) (uB hlay) hr hF hb (by rw[tV];exact hlen)
  (λH xs hO hS=>hsp w H xs a hO hwi e2 hS) λH e s'=>hCX w H s₁ e s') λr' s' hq=>?_)
 obtain ⟨u,as',rfl,h1,h2,h3,h4⟩:=hq;exact ⟨.inl ⟨u,_,as',rfl,λ_=>rfl,h1,(OpenSpec.post_iff hwell hwi _ _).mpr rfl,λz=>Bool.noConfusion (show false=true from z)⟩,h2,h3,h4⟩
theorem F5 {r:OpenSpec}{k:Nat}{q:Program}{loose:List Str}{XP:(Str->Option Value)->Heap->Prop}{YP:World->Heap->Prop}{d:DefRec}{K:Params->PySem.W.Frag}{CX:CXT}{ps:List Str}{sp:PySem.W.Frag->Sp}
  (hwell:r.wellSaid=true) (hdf:d.params.defaults=[]) (hlen:r.args.length=ps.length) (hr:cI k callerA)
  (hY:∀ (w:World) (h:Heap),YP w h->(K w.params).In h)
  (F:∀ (w:World) (mg:Str->Option Value) (fa:Addr) (h:Heap),YP w h->(K w.params).In h->h.Ns mainGlobals mg->mg d.name=some (.ref fa)->
   ∃ fd:FuncData,(∀ (s:Shared) (us:List Value),us.length=ps.length->BindsTo s fd ⟨us,[]⟩ (ps.zip us))/\
    ∀ base:Heap,(K w.params).In base->base.Ns mainGlobals mg->aN r.prog w (K w.params) mg base CX k fa fd ps (sp (K w.params)))
  (hsp:∀ (K:PySem.W.Frag) (H:Hp) (xs:List V) (a:Codec.denoteAll r.args),AF H->Codec.withinAll r.args a=true->Codec.app r.args r.asked a=true->kK K H xs (Codec.encAll r.args a)->
   sp K xs H (λv H'=>Dw K H' v (r.ret.enc (Codec.app r.args r.f a))) λ_ _ _=>False)
  (hCX:∀ (H:Hp) (s:Shared) (e:Value) (s':Shared),CX [] H s (λ_ _ _=>False) e s'->False):
  PySem.W.WalkOS q loose XP YP r d [] (λf vs=>PySem.call f vs):=
 K5 (K:=K) (CX:=λ_=>CX) (sp:=λw=>sp (K w.params)) hwell hdf hlen hr hY F (λw H xs a h1 h2 h3 h4=>hsp (K w.params) H xs a h1 h2 h3 h4) λ_ H s e s'=>hCX H s e s'
end L2
end
namespace TC
open PySem PySem.Spec PyProof.Rows L2 XF
def top (i:Nat):Stmt:=PySem.Challenge.pw_truthcircuitsdesk_s01_answers.main.body.getD i (.Pass ⟨0,0,0,0⟩)
structure Def (K:PySem.W.Frag)(mg:Str->Option Value)(x:Str)(st:Stmt)(ps:List Str)(f:Addr)(fd:FuncData):Prop where
 fn:Fun K x x st f fd
 at_:mg x=some (.ref f)
 bd:cZ K fd ps []
structure bN (K:PySem.W.Frag)(C:Addr)(m qual:Str)(st:Stmt)(ps:List Str)(f:Addr)(fd:FuncData):Prop where
 fn:Fun K m qual st f fd
 me:KD K C m f
 bd:cZ K fd ps []
abbrev k8:Stmt:=eW (top 19) 0
abbrev nX:Stmt:=eW (top 44) 0
abbrev gY:Stmt:=top 45
abbrev gB:Stmt:=top 46
abbrev pV:Stmt:=top 47
abbrev dI:Stmt:=top 48
abbrev eD:Stmt:=top 49
abbrev dH:Stmt:=top 50
abbrev mI:Stmt:=top 51
abbrev j4:Stmt:=top 52
abbrev lL:Stmt:=top 53
abbrev lO:Stmt:=top 54
abbrev eQ:Stmt:=top 55
def GI (mg:Str->Option Value)(x:Str)(n:Int):Prop:=∃ t,mg x=some (.int n t)
def GS (mg:Str->Option Value)(x:Str)(z:Str):Prop:=∃ t,mg x=some (.str z t)
section
variable {X:Cx}{x:Str}{pos:Pos}
theorem pgi {n:Int}(h:GI X.mg x n)(hg:Gl X x:=by rfl)(hd:(x==("__debug__" : Str))=false:=by decide):PE X (.Name x pos) (tC (.int n)):=by
 obtain ⟨t,h⟩:=h;exact yP hg h ⟨t,rfl⟩ hd
theorem pgs {z:Str}(h:GS X.mg x z)(hg:Gl X x:=by rfl)(hd:(x==("__debug__" : Str))=false:=by decide):PE X (.Name x pos) (tC (.str z)):=by
 obtain ⟨t,h⟩:=h;exact yP hg h ⟨t,rfl⟩ hd
theorem pgr {a:Addr}(h:X.mg x=some (.ref a))(hg:Gl X x:=by rfl)(hd:(x==("__debug__" : Str))=false:=by decide):PE X (.Name x pos) (tC (.ref a)):=yP hg h rfl hd
end
def GT (K:PySem.W.Frag)(mg:Str->Option Value)(x:Str)(xs:List V):Prop:=∃ a,mg x=some (.ref a)/\∃ (o:Obj) (its:Array Value) (n:Nat),K.lookup a=some o/\o.cls=.type "tuple" /\ o.data=.seq its n/\its.size<=sizeLine/\bH xs its.toList
theorem GT.sq {K:PySem.W.Frag}{a:Addr}{xs:List V}{H:Hp}(h:∃ (o:Obj) (its:Array Value) (n:Nat),K.lookup a=some o/\o.cls=.type "tuple" /\ o.data=.seq its n/\its.size<=sizeLine/\bH xs its.toList):SqT K H a xs:=.inr h
theorem HJ (i j:Int):JT (.int i) (.int j)=true:=rfl
theorem HM (i j:Str):JT (.str i) (.str j)=true:=rfl
theorem HL (i:Str)(j:Int):JT (.str i) (.int j)=true:=rfl
theorem HK (i:Int)(j:Str):JT (.int i) (.str j)=true:=rfl
theorem cV (i j:Int):decide (V.int i=V.int j)=decide (i=j):=decide_eq_decide.mpr ⟨λh=>V.int.inj h,λh=>by rw[h]⟩
theorem qR (i j:Str):decide (V.str i=V.str j)=decide (i=j):=decide_eq_decide.mpr ⟨λh=>V.str.inj h,λh=>by rw[h]⟩
def TxL (K:PySem.W.Frag)(H:Hp)(a:Addr)(bs:List UInt8):Prop:=SqL K H a (bs.map λb=>V.int b.toNat)
theorem TxL.at_ {bs:List UInt8}{i:Nat}{b:UInt8}(h:bs[i]?=some b):atI (bs.map λb=>V.int b.toNat) (i:Int)=some (V.int b.toNat):=aX (by rw[List.getElem?_map,h];rfl)
end TC
local macro_rules|`(tactic| walk_at "s")=>`(tactic| exact ⟨rfl,rfl,rfl,by decide +kernel,rfl,by decide +kernel,by decide +kernel⟩)
set_option hygiene false
local macro_rules|`(tactic| walk_at "l")=>`(tactic| (cases h;subst_vars;rfl))
local macro_rules|`(tactic| k_caughtN0)=>`(tactic| simp only[L2.UL,L2.NT,L2.UG,L2.UK,L2.S2,L2.NS,L2.NX,L2.tC,L2.tOp,L2.tUn,L2.W2,L2.RN,L2.W5,L2.NV,L2.R1,L2.EU,L2.tB,L2.UB,L2.tOr,L2.UI,L2.NQ,L2.UJ,L2.S0,L2.tIf,L2.NR,L2.NU,L2.QT,L2.FV,L2.start,L2.HV,L2.tCB,L2.UC,L2.RF,L2.MS,L2.MT,L2.rEq,L2.rNe,L2.RO,TC.HJ,TC.HM,TC.HL,TC.HK,TC.cV,TC.qR,L2.HW,L2.EV,L2.N2,L2.HX,L2.KE,L2.UH,L2.UM,L2.tBM,L2.WJ,L2.xF,List.map_cons,List.map_nil,List.length_cons,List.length_nil,List.replicate_succ,List.replicate_zero,Nat.sub_self,Nat.sub_zero,Nat.reduceAdd,Nat.reduceSub,List.append_nil,List.nil_append,List.cons_append,List.getElem?_cons_zero,List.getElem?_cons_succ,List.set_cons_zero,List.set_cons_succ,Option.some.injEq,L2.V.int.injEq,L2.V.bl.injEq,L2.V.ref.injEq,L2.V.str.injEq,List.cons.injEq,exists_eq_left',exists_eq_left,exists_and_left,exists_eq_right,and_true,true_and])
namespace TC
open PySem PySem.Spec PyProof.Rows L2 XF VaprbBase Mth
theorem rV {α:Type}{l:List α}{k:Nat}{b:α}{p:α->Bool}(h:l[k]?=some b)(hb:p b=true):((l.drop k).takeWhile p).length=1+((l.drop (k+1)).takeWhile p).length:=by
 obtain ⟨hk,e⟩:=List.getElem?_eq_some_iff.mp h;rw[List.drop_eq_getElem_cons hk,e,List.takeWhile_cons_of_pos hb,List.length_cons,Nat.add_comm]
theorem O8 {α:Type}{l:List α}{k:Nat}{b:α}{p:α->Bool}(h:l[k]?=some b)(hb:p b=false):((l.drop k).takeWhile p).length=0:=by
 obtain ⟨hk,e⟩:=List.getElem?_eq_some_iff.mp h;rw[List.drop_eq_getElem_cons hk,e,List.takeWhile_cons_of_neg (by simp[hb])];rfl
theorem EZ {α:Type}{l:List α}{k:Nat}{p:α->Bool}(h:l.length<=k):((l.drop k).takeWhile p).length=0:=by
 rw[List.drop_eq_nil_of_le h];rfl
section
variable {P:Program}{w:World}{K:PySem.W.Frag}{mg:Str->Option Value}{base:Heap}
inductive pZ (vs:List V) (H:Hp) (Q:VK) (E:XK):Prop
 | mk:∀ b:UInt8,vs=[.int b.toNat]->Q (.bl (isDigit b)) H->pZ vs H Q E
theorem QF:aO ["byte"] ["byte"] (aI gB):=by walk_at "s"
theorem uH {f:Addr}{fd:FuncData}(F:Def K mg "is_digit" gB ["byte"] f fd):aN P w K mg base CX0 1 f fd ["byte"] pZ:=by
 refine F.fn.ok QF (λvs H Q E h=>?_) (λcdv A outer s H vs Q E hr h=>?_)
 ·walk_at "l"
 ·obtain ⟨b,rfl,q⟩:=h;refine ⟨_,aE (aP (iX pL pL aF (pv 0) aF)),?_⟩;k_caughtN0;unfold isDigit at q
  by_cases h1:48<=b.toNat
  ·rw[if_pos (decide_eq_true (by lia))];rw[show decide (48<=b.toNat/\b.toNat<=57)=decide ((b.toNat:Int)<=57) from decide_eq_decide.mpr (by lia)] at q;exact q
  ·rw[if_neg (by simp;lia)];rw[decide_eq_false (by lia)] at q;exact q
inductive qA (vs:List V) (H:Hp) (Q:VK) (E:XK):Prop
 | mk:∀ b:UInt8,vs=[.int b.toNat]->Q (.bl (isLetter b)) H->qA vs H Q E
theorem N6:aO ["byte"] ["byte"] (aI gY):=by walk_at "s"
theorem x8 {f:Addr}{fd:FuncData}(F:Def K mg "is_letter" gY ["byte"] f fd):aN P w K mg base CX0 1 f fd ["byte"] qA:=by
 refine F.fn.ok N6 (λvs H Q E h=>?_) (λcdv A outer s H vs Q E hr h=>?_)
 ·walk_at "l"
 ·obtain ⟨b,rfl,q⟩:=h;refine ⟨_,aE (aP (VX (iX pL pL aF (pv 0) aF) (yQ (iX pL pL aF (pv 0) aF)))),?_⟩;k_caughtN0;unfold isLetter at q
  have key:(decide (65<=b.toNat/\b.toNat<=90)||decide (97<=b.toNat/\b.toNat<=122))=if (65<=b.toNat) then (if b.toNat<=90 then true else (if 97<=b.toNat then decide (b.toNat<=122) else false)) else (if 97<=b.toNat then decide (b.toNat<=122) else false):=by
   by_cases h1:65<=b.toNat<;>by_cases h2:b.toNat<=90<;>by_cases h3:97<=b.toNat<;>simp[h1,h2,h3]
  rw[key] at q
  by_cases h1:65<=b.toNat<;>by_cases h2:b.toNat<=90<;>by_cases h3:97<=b.toNat
  all_goals
   have i1:decide ((65:Int)<=(b.toNat:Int))=decide (65<=b.toNat):=decide_eq_decide.mpr (by lia);have i2:decide ((b.toNat:Int)<=90)=decide (b.toNat<=90):=decide_eq_decide.mpr (by lia);have i3:decide ((97:Int)<=(b.toNat:Int))=decide (97<=b.toNat):=decide_eq_decide.mpr (by lia);have i4:decide ((b.toNat:Int)<=122)=decide (b.toNat<=122):=decide_eq_decide.mpr (by lia);simp only[i1,i2,i3,i4,h1,h2,h3,decide_true,decide_false,if_true,if_false,Bool.false_eq_true] at q ⊢;exact q
inductive EL (K:PySem.W.Frag) (vs:List V) (H:Hp) (Q:VK) (E:XK):Prop
 | mk:∀ (a:Addr) (bs:List UInt8) (p:Nat),vs=[.ref a,.int p]->TxL K H a bs->p<=bs.length->Q (.int ((p+((bs.drop p).takeWhile isDigit).length:Nat):Int)) H->EL K vs H Q E
theorem N4:aO ["text","place"] ["text","place"] (aI dH):=by walk_at "s"
theorem P9 {f g:Addr}{fd gd:FuncData}(len:mg "len" = none)(F:Def K mg "behind_digits" dH ["text","place"] f fd)(G:Def K mg "is_digit" gB ["byte"] g gd):aN P w K mg base CX0 2 f fd ["text","place"] (EL K):=by
 have GD:aN P w K mg base CX0 1 g gd ["byte"] pZ:=uH G;refine F.fn.ok N4 (λvs H Q E h=>?_) (λcdv A outer s H vs Q E hr h=>?_)
 ·walk_at "l"
 ·obtain ⟨a,bs,p,rfl,hS,hp,q⟩:=h
  refine ⟨_,aG (eC PassesOwn.never (PW.pt (jZ (aT eZ (pv 1) (b9 aU (by rfl) len PySem.boot_len (a9 (pv 0) aC)) (aY _))
   (gV (cE (aS GD hr (by rfl) G.at_ G.fn.kp G.bd .nil aR (a9 (aK aL (pv 0) (pv 1) (λ_ _=>rfl)) aC))))))
   (aE (yS (i:=1) N4.nd rfl (Or.inl rfl) aF yD))) (aE (aP (pv 1))),?_⟩
  show vI _ _ _ _ _;refine ⟨λm σ' H'=>∃ k:Nat,σ'=[some (.ref a),some (.int k)]/\H'=H/\k<=bs.length/\k+((bs.drop k).takeWhile isDigit).length=p+((bs.drop p).takeWhile isDigit).length/\m=bs.length-k,⟨_,p,rfl,rfl,hp,rfl,rfl⟩,?_⟩;rintro m σ' H' ⟨k,rfl,rfl,hk,he,rfl⟩;k_caughtN0;refine ⟨_,.inl hS,?_⟩;rw[List.length_map]
  by_cases hlt:k<bs.length
  ·obtain ⟨b,hb⟩:∃ b,bs[k]?=some b:=⟨_,List.getElem?_eq_getElem hlt⟩
   rw[if_pos (decide_eq_true (by lia))];refine ⟨_,hS,_,TxL.at_ hb,b,rfl,_,rfl,?_⟩
   cases hd:isDigit b with
   | true=>
    rw[if_pos rfl];rw[rV hb hd] at he;exact ⟨λσ2 H2=>σ2=[some (.ref a),some (.int ((k+1:Nat):Int))]/\H2=H',λσ2 H2 z=>⟨bs.length-(k+1),by lia,k+1,z.1,z.2,by lia,by lia,rfl⟩,by rw[Int.natCast_add];rfl,rfl⟩
   | false=>
    rw[if_neg Bool.false_ne_true];rw[O8 hb hd,Nat.add_zero] at he;rw[he];exact q
  ·rw[if_neg (by simp;lia),if_neg Bool.false_ne_true];rw[EZ (Nat.le_of_not_lt hlt),Nat.add_zero] at he;rw[he];exact q
inductive zJ (K:PySem.W.Frag) (vs:List V) (H:Hp) (Q:VK) (E:XK):Prop
 | mk:∀ (a:Addr) (bs:List UInt8) (p:Nat),vs=[.ref a,.int p]->TxL K H a bs->p<=bs.length->Q (.int ((p+((bs.drop p).takeWhile (· != 10)).length:Nat):Int)) H->zJ K vs H Q E
theorem N5:aO ["text","place"] ["text","place"] (aI dI):=by walk_at "s"
theorem i8 {b:UInt8}{n:Nat}(hn:n<256):((b.toNat:Int)=(n:Int))↔b=UInt8.ofNat n:=by
 constructor
 ·intro h;have h:b.toNat=n:=by lia
  rw[← h];exact (UInt8.ofNat_toNat).symm
 ·rintro rfl;rw[UInt8.toNat_ofNat']
  have:n%2^8=n:=Nat.mod_eq_of_lt hn
  lia
theorem b10 {b:UInt8}:((b.toNat:Int)=10)↔b=10:=i8 (n:=10) (by decide)
theorem b35 {b:UInt8}:((b.toNat:Int)=35)↔b=35:=i8 (n:=35) (by decide)
theorem b45 {b:UInt8}:((b.toNat:Int)=45)↔b=45:=i8 (n:=45) (by decide)
theorem b62 {b:UInt8}:((b.toNat:Int)=62)↔b=62:=i8 (n:=62) (by decide)
theorem b48 {b:UInt8}:((b.toNat:Int)=48)↔b=48:=i8 (n:=48) (by decide)
theorem PB {f:Addr}{fd:FuncData}(len:mg "len" = none)(le:GI mg "LINE_END" 10)(F:Def K mg "behind_remark" dI ["text","place"] f fd):aN P w K mg base CX0 1 f fd ["text","place"] (zJ K):=by
 refine F.fn.ok N5 (λvs H Q E h=>?_) (λcdv A outer s H vs Q E hr h=>?_)
 ·walk_at "l"
 ·obtain ⟨a,bs,p,rfl,hS,hp,q⟩:=h
  refine ⟨_,aG (eC PassesOwn.never (PW.pt (jZ (aT eZ (pv 1) (b9 aU (by rfl) len PySem.boot_len (a9 (pv 0) aC)) (aY _))
   (gV (aT GO (aK aL (pv 0) (pv 1) (λ_ _=>rfl)) (pgi le) (aY _)))))
   (aE (yS (i:=1) N5.nd rfl (Or.inl rfl) aF yD))) (aE (aP (pv 1))),?_⟩
  show vI _ _ _ _ _;refine ⟨λm σ' H'=>∃ k:Nat,σ'=[some (.ref a),some (.int k)]/\H'=H/\k<=bs.length/\k+((bs.drop k).takeWhile (· != 10)).length=p+((bs.drop p).takeWhile (· != 10)).length/\m=bs.length-k,⟨_,p,rfl,rfl,hp,rfl,rfl⟩,?_⟩;rintro m σ' H' ⟨k,rfl,rfl,hk,he,rfl⟩;k_caughtN0;refine ⟨_,.inl hS,?_⟩;rw[List.length_map]
  by_cases hlt:k<bs.length
  ·obtain ⟨b,hb⟩:∃ b,bs[k]?=some b:=⟨_,List.getElem?_eq_getElem hlt⟩
   rw[if_pos (decide_eq_true (by lia))];refine ⟨_,hS,_,TxL.at_ hb,?_⟩;k_caughtN0
   by_cases hd:b=10
   ·rw[if_neg (by simpa using b10.mpr hd)];subst hd;rw[O8 hb (by decide),Nat.add_zero] at he;rw[he];exact q
   ·have hd2:(b != 10)=true:=by simpa using hd
    rw[if_pos (by simpa using λz=>hd (b10.mp z))];rw[rV hb hd2] at he;exact ⟨λσ2 H2=>σ2=[some (.ref a),some (.int ((k+1:Nat):Int))]/\H2=H',λσ2 H2 z=>⟨bs.length-(k+1),by lia,k+1,z.1,z.2,by lia,by lia,rfl⟩,by rw[Int.natCast_add];rfl,rfl⟩
  ·rw[if_neg (by simp;lia),if_neg Bool.false_ne_true];rw[EZ (Nat.le_of_not_lt hlt),Nat.add_zero] at he;rw[he];exact q
inductive NJ (K:PySem.W.Frag) (vs:List V) (H:Hp) (Q:VK) (E:XK):Prop
 | mk:∀ (a:Addr) (bs:List UInt8) (p:Nat),vs=[.ref a,.int p]->TxL K H a bs->p<=bs.length->Q (.int ((p+bS (bs.drop p):Nat):Int)) H->NJ K vs H Q E
theorem N3:aO ["text","place"] ["text","place"] (aI eD):=by walk_at "s"
theorem IQ (b:UInt8):inV (.int b.toNat) [.int 32,.int 9,.int 10]=isBlank b:=by
 have h1:=i8 (b:=b) (n:=32) (by decide);have h2:=i8 (b:=b) (n:=9) (by decide);have h3:=i8 (b:=b) (n:=10) (by decide)
 show ((32==(b.toNat:Int))||((9==(b.toNat:Int))||((10==(b.toNat:Int))||false)))=(b==32||b==9||b==10)
 have e1:((32:Int)==(b.toNat:Int))=(b==32):=by rw[Bool.eq_iff_iff,beq_iff_eq,beq_iff_eq];exact eq_comm.trans h1
 have e2:((9:Int)==(b.toNat:Int))=(b==9):=by rw[Bool.eq_iff_iff,beq_iff_eq,beq_iff_eq];exact eq_comm.trans h2
 have e3:((10:Int)==(b.toNat:Int))=(b==10):=by rw[Bool.eq_iff_iff,beq_iff_eq,beq_iff_eq];exact eq_comm.trans h3
 rw[e1,e2,e3,Bool.or_false,Bool.or_assoc]
theorem SY {f g:Addr}{fd gd:FuncData}(len:mg "len" = none)(le:GI mg "LINE_END" 10)(rm:GI mg "REMARK" 35)(bl:GT K mg "BLANKS" [.int 32,.int 9,.int 10])(F:Def K mg "behind_blanks" eD ["text","place"] f fd)
  (G:Def K mg "behind_remark" dI ["text","place"] g gd):aN P w K mg base CX0 2 f fd ["text","place"] (NJ K):=by
 have GR:aN P w K mg base CX0 1 g gd ["text","place"] (zJ K):=PB len le G;obtain ⟨ab,mb,sb⟩:=bl;refine F.fn.ok N3 (λvs H Q E h=>?_) (λcdv A outer s H vs Q E hr h=>?_)
 ·walk_at "l"
 ·obtain ⟨a,bs,p,rfl,hS,hp,q⟩:=h
  refine ⟨_,aG (eC PassesOwn.never (PW.pt (jZ (aT eZ (pv 1) (b9 aU (by rfl) len PySem.boot_len (a9 (pv 0) aC)) (aY _))
   (gV (PW.pt (kO (aT mD (aK aL (pv 0) (pv 1) (λ_ _=>rfl)) (pgr mb) (by with_unfolding_all rfl)) (iJ (aT bV (aK aL (pv 0) (pv 1) (λ_ _=>rfl)) (pgi rm) (aY _))))))))
   (aE (bC (aT bV (aK aL (pv 0) (pv 1) (λ_ _=>rfl)) (pgi rm) (aY _))
    (aE (aQ (i:=1) N3.nd rfl (Or.inl rfl) (aS GR hr (by rfl) G.at_ G.fn.kp G.bd .nil aR (a9 (pv 0) (a9 (pv 1) aC)))))
    (aE (yS (i:=1) N3.nd rfl (Or.inl rfl) aF yD))))) (aE (aP (pv 1))),?_⟩
  show vI _ _ _ _ _;refine ⟨λm σ' H'=>∃ k:Nat,σ'=[some (.ref a),some (.int k)]/\H'=H/\k<=bs.length/\k+bS (bs.drop k)=p+bS (bs.drop p)/\m=bs.length-k,⟨_,p,rfl,rfl,hp,rfl,rfl⟩,?_⟩;rintro m σ' H' ⟨k,rfl,rfl,hk,he,rfl⟩;k_caughtN0;refine ⟨_,.inl hS,?_⟩;rw[List.length_map]
  by_cases hlt:k<bs.length
  ·obtain ⟨b,hb⟩:∃ b,bs[k]?=some b:=⟨_,List.getElem?_eq_getElem hlt⟩
   have dr:bs.drop k=b::bs.drop (k+1):=by
    obtain ⟨hk2,e⟩:=List.getElem?_eq_some_iff.mp hb;rw[List.drop_eq_getElem_cons hk2,e]
   rw[if_pos (decide_eq_true (by lia))];refine ⟨_,hS,_,TxL.at_ hb,?_⟩;refine ⟨_,.inr (GT.sq sb),rfl,rfl,?_⟩;rw[if_neg Bool.false_ne_true,IQ]
   have rest:isBlank b=true∨b=35->∃ N:L2.St->Hp->Prop,(∀ σ2 H2,N σ2 H2->∃ m',m'<bs.length-k/\∃ k:Nat,σ2=[some (V.ref a),some (V.int k)]/\H2=H'/\k<=bs.length/\k+bS (bs.drop k)=p+bS (bs.drop p)/\m'=bs.length-k)/\
     (if decide ((b.toNat:Int)=35)=true then zJ K [V.ref a,V.int k] H' (λx H1=>N [some (V.ref a),some x] H1) E0 else N [some (V.ref a),some (V.int ((k:Int)+1))] H'):=λhbb=>by
    refine ⟨λσ2 H2=>∃ m',m'<bs.length-k/\∃ k:Nat,σ2=[some (V.ref a),some (V.int k)]/\H2=H'/\k<=bs.length/\k+bS (bs.drop k)=p+bS (bs.drop p)/\m'=bs.length-k,λ_ _ z=>z,?_⟩
    by_cases h35:b=35
    ·rw[if_pos (decide_eq_true (b35.mpr h35))];subst h35;have tl:=cY (· != (10:UInt8)) (bs.drop (k+1));rw[dr,mR (by decide) (by decide),List.drop_drop] at he;rw[List.length_drop] at tl;refine ⟨a,bs,k,rfl,hS,hk,bs.length-(k+((bs.drop k).takeWhile (· != 10)).length),?_,k+((bs.drop k).takeWhile (· != 10)).length,rfl,rfl,?_,?_,rfl⟩
     ·rw[rV hb (by decide)];lia
     ·rw[rV hb (by decide)];lia
     ·rw[rV hb (by decide),show k+(1+((bs.drop (k+1)).takeWhile (· != 10)).length)=k+1+((bs.drop (k+1)).takeWhile (· != 10)).length by lia];lia
    ·rw[if_neg (by simpa using λz=>h35 (b35.mp z))];have hbl:isBlank b=true:=hbb.resolve_right h35;rw[dr,oS hbl] at he;exact ⟨bs.length-(k+1),by lia,k+1,by rw[Int.natCast_add];rfl,rfl,by lia,by lia,rfl⟩
   cases hbl:isBlank b with
   | true=>
    rw[if_pos rfl,if_pos trivial];obtain ⟨N,n1,n2⟩:=rest (.inl hbl);refine ⟨N,n1,_,hS,_,TxL.at_ hb,?_⟩;k_caughtN0;exact n2
   | false=>
    rw[if_neg Bool.false_ne_true];refine ⟨_,hS,_,TxL.at_ hb,?_⟩;k_caughtN0
    by_cases h35:b=35
    ·rw[if_pos (decide_eq_true (b35.mpr h35))];obtain ⟨N,n1,n2⟩:=rest (.inr h35);refine ⟨N,n1,_,hS,_,TxL.at_ hb,?_⟩;k_caughtN0;exact n2
    ·rw[if_neg (by simpa using λz=>h35 (b35.mp z))];rw[dr,wH hbl (by simpa using h35),Nat.add_zero] at he;rw[he];exact q
  ·rw[if_neg (by simp;lia),if_neg Bool.false_ne_true];rw[List.drop_eq_nil_of_le (Nat.le_of_not_lt hlt),tO,Nat.add_zero] at he;rw[he];exact q
def aH (S:List Addr)(H H':Hp):Prop:=∀ b o,H b=some o->b∉S->H' b=some o
theorem aH.refl {S:List Addr}{H:Hp}:aH S H H:=λ_ _ q _=>q
theorem aH.trans {S:List Addr}{H H1 H2:Hp}(a:aH S H H1)(b:aH S H1 H2):aH S H H2:=λc o q n=>b c o (a c o q n) n
theorem aH.mono {S S':List Addr}{H H1:Hp}(a:aH S H H1)(h:∀ b∈S,b∈S'):aH S' H H1:=λc o q n=>a c o q λz=>n (h c z)
theorem aH.laid {S:List Addr}{H:Hp}{p:Addr}{o:HO}(h:H p=none):aH S H (upd H p o):=λb u q _=>by rw[aB (aD q h)];exact q
theorem aH.seq {S:List Addr}{K:PySem.W.Frag}{H H':Hp}{a:Addr}{xs:List V}(e:aH S H H')(n:a∉S)(h:SqL K H a xs):SqL K H' a xs:=by
 rcases h with (h|⟨o,h⟩)|h
 ·exact .inl (.inl (e _ _ h n))
 ·exact .inl (.inr ⟨o,e _ _ h n⟩)
 ·exact .inr h
def fF (c p:Int):List (Str×V):=[("code",.int c),("place",.int p)]
def F7 (C:Addr)(H:Hp)(e:Addr)(c p:Int):Prop:=∃ d,H e=some (vV C (some d) e)/\H d=some (mW (fF c p) d)
def Flt (C:Addr)(E:XK)(S:List Addr)(H:Hp)(c p:Int):Prop:=∀ e od H',F7 C H' e c p->aH S H H'->E (.ref e) od H'
theorem Flt.keep {C:Addr}{E:XK}{S:List Addr}{H H1:Hp}{c p:Int}(h:Flt C E S H c p)(k:aH S H H1):Flt C E S H1 c p:=λe od H' f k'=>h e od H' f (k.trans k')
structure gE (K:PySem.W.Frag)(mg:Str->Option Value)(C f:Addr)(fd:FuncData):Prop where
 xc:XC K C
 mak:XMk K C f
 nC:aZ K C "code"
 nP:aZ K C "place"
 at_:mg "Fault" = some (.ref C)
 fn:Fun K "__init__" "Fault.__init__" k8 f fd
 bd:cZ K fd ["self","code","place"] []
inductive zN (C:Addr) (vs:List V) (H:Hp) (Q:VK) (E:XK):Prop
 | mk:∀ (e:Addr) (c p:Int),vs=[.ref e,.int c,.int p]->H e=some (mP C none e)->(∀ (H':Hp) (d:Addr),d≠e->H' e=some (mP C (some d) e)->H' d=some (mW (fF c p) d)->(∀ b o,H b=some o->b≠e->H' b=some o)->Q .non H')->zN C vs H Q E
def tUp (t:TE):TE:=λσ H Q=>∃ Q0:VK,t σ H Q0/\∀ v H1,Q0 v H1->Q v H1
theorem RL {X:Cx}{e:Expr}{t:TE}(h:PE X e t):PE X e (tUp t):=λpins s σ H Q I ⟨Q0,q,k⟩=>thn (h pins s σ H Q0 I q) λu s1 ⟨v,H1,I1,r,z⟩=>⟨v,H1,I1,r,k v H1 z⟩
def MZ (C:Addr)(E:XK)(ta tb:TE):TS:=λ_ σ H=>ta σ H λx H1=>tb σ H1 λy H2=>∃ c p,x=.int c/\y=.int p/\Flt C E [] H2 c p
theorem QG:aO ["self","code","place"] ["self","code","place"] (aI k8):=by walk_at "s"
theorem M1 {C f:Addr}{fd:FuncData}(T:gE K mg C f fd):aN P w K mg base CX0 1 f fd ["self","code","place"] (zN C):=by
 refine T.fn.ok QG (λvs H Q E h=>?_) (λcdv A outer s H vs Q E hr h=>?_)
 ·walk_at "l"
 ·obtain ⟨e,c,p,rfl,he,q⟩:=h;refine ⟨_,aG (VY (pv 0) (pv 1) rfl) (aE (ps_x (pv 0) (pv 2) rfl)),?_⟩;refine ⟨_,rfl,_,rfl,e,C,rfl,he,T.xc,T.nC,λd nd nde=>?_⟩;refine ⟨_,rfl,_,rfl,e,C,d,_,rfl,aA,by rw[aB nde,aA],T.xc,T.nP,by show 1<1000;decide,?_⟩;refine q _ d nde (by rw[aB (Ne.symm nde),aA]) aA λb o z nb=>?_;rw[aB (aD z nd),aB nb,aB (aD z nd)];exact z
theorem cK {X:Cx}{C f:Addr}{fd:FuncData}{E:XK}{a b:Expr}{ta tb:TE}{np cpos pos:Pos}{k:Nat}(T:gE X.K X.mg C f fd)(hc:X.calm=true)(hr:CY C X E)(hm:cI 2 X.A)(ha:PE X a ta)(hb:PE X b tb)(hg:Gl X "Fault" := by rfl)
  (he:starEach [a,b] X.env=(false,eval a X.env)::starEach [b] X.env:=by rfl) (he2:starEach [b] X.env=(false,eval b X.env)::starEach [] X.env:=by rfl) (hpl:(backTo cpos (starEach [b] X.env)).any (·.1)=false:=by rfl):
  PS X (.Raise (some (.Call (.Name "Fault" np) [a,b] [] cpos)) none pos) (MZ C E ta tb):=by
 intro pins s σ H D I h;have G:aN X.prog X.w X.K X.mg X.base CX0 1 f fd ["self","code","place"] (zN C):=M1 T;refine MQ hc T.mak hr (MP T.mak G hm hg T.at_ T.bd (a9 (RL ha) (a9 (RL hb) aC he2) he) (by decide) he hpl) pins s σ H D I ?_;refine ⟨_,h,λx H1 z=>⟨_,z,λy H2 ⟨c,p,ex,ey,fl⟩=>?_⟩⟩;subst ex ey;refine ⟨by show 2<=sizeLine;decide,λe hn=>⟨e,c,p,rfl,aA,λH' d nde h1 h2 kp=>⟨rfl,e,d,_,rfl,h1,h2,fl e (some d) _ ⟨d,aA,by rw[aB nde];exact h2⟩ λb o q _=>?_⟩⟩⟩;have nb:b≠e:=aD q hn;rw[aB nb];exact kp b o (by rw[aB nb];exact q) nb
def tkF (kind:Int)(said:V)(place behind:Int):List (Str×V):=[("kind",.int kind),("said",said),("place",.int place),("behind",.int behind)]
theorem t7 (k:Int)(x:V)(p b:Int):(tkF k x p b).lookup ("kind" : Str)=some (.int k):=rfl
theorem cT (k:Int)(x:V)(p b:Int):(tkF k x p b).lookup ("said" : Str)=some x:=by with_unfolding_all rfl
theorem eE (k:Int)(x:V)(p b:Int):(tkF k x p b).lookup ("place" : Str)=some (.int p):=by with_unfolding_all rfl
theorem K2 (k:Int)(x:V)(p b:Int):(tkF k x p b).lookup ("behind" : Str)=some (.int b):=by with_unfolding_all rfl
structure fJ (K:PySem.W.Frag)(mg:Str->Option Value)(C f:Addr)(fd:FuncData):Prop where
 cl:Cls K C
 mak:Mk K C f
 nK:aZ K C "kind"
 nS:aZ K C "said"
 nP:aZ K C "place"
 nB:aZ K C "behind"
 at_:mg "Token" = some (.ref C)
 fn:Fun K "__init__" "Token.__init__" nX f fd
 bd:cZ K fd ["self","kind","said","place","behind"] []
def DA (C:Addr)(H:Hp)(a:Addr)(k:Int)(x:V)(p b:Int):Prop:=∃ dx,H a=some (.ins C dx (tkF k x p b))
inductive kF (C:Addr) (vs:List V) (H:Hp) (Q:VK) (E:XK):Prop
 | mk:∀ (a dx:Addr) (k:Int) (x:V) (p b:Int),vs=[.ref a,.int k,x,.int p,.int b]->H a=some (.ins C dx [])->(∀ H':Hp,DA C H' a k x p b->(∀ b o,H b=some o->b≠a->H' b=some o)->Q .non H')->kF C vs H Q E
theorem QO:aO ["self","kind","said","place","behind"] ["self","kind","said","place","behind"] (aI nX):=by walk_at "s"
theorem pH {C f:Addr}{fd:FuncData}(T:fJ K mg C f fd):aN P w K mg base CX0 1 f fd ["self","kind","said","place","behind"] (kF C):=by
 refine T.fn.ok QO (λvs H Q E h=>?_) (λcdv A outer s H vs Q E hr h=>?_)
 ·walk_at "l"
 ·obtain ⟨a,dx,k,x,p,b,rfl,ha,q⟩:=h;refine ⟨_,aG (bY (pv 0) (pv 1) rfl) (aG (bY (pv 0) (pv 2) rfl) (aG (bY (pv 0) (pv 3) rfl) (aE (bY (pv 0) (pv 4) rfl)))),?_⟩;refine ⟨_,rfl,_,rfl,a,C,dx,_,rfl,ha,T.cl,T.nK,by show 0<1000;decide,?_⟩;refine ⟨_,rfl,_,rfl,a,C,dx,_,rfl,aA,T.cl,T.nS,by show 1<1000;decide,?_⟩;refine ⟨_,rfl,_,rfl,a,C,dx,_,rfl,aA,T.cl,T.nP,by show 2<1000;decide,?_⟩;refine ⟨_,rfl,_,rfl,a,C,dx,_,rfl,aA,T.cl,T.nB,by show 3<1000;decide,?_⟩;refine q _ ⟨dx,Eq.trans aA (congrArg (λz=>some (HO.ins C dx z)) (by with_unfolding_all rfl))⟩ λb o z nb=>?_;rw[aB nb,aB nb,aB nb,aB nb];exact z
end
end TC
local macro_rules|`(tactic| k_caughtN0)=>`(tactic| simp only[L2.UL,L2.NT,L2.UG,L2.UK,L2.S2,L2.NS,L2.NX,L2.tC,L2.tOp,L2.tUn,L2.W2,L2.RN,L2.W5,L2.NV,L2.R1,L2.EU,L2.tB,L2.UB,L2.tOr,L2.UI,L2.NQ,L2.UJ,L2.S0,L2.tIf,L2.NR,L2.NU,L2.QT,L2.FV,L2.start,L2.HV,L2.tCB,L2.UC,L2.RF,L2.MS,L2.MT,L2.rEq,L2.rNe,L2.RO,TC.HJ,TC.HM,TC.HL,TC.HK,TC.cV,TC.qR,L2.HW,L2.EV,TC.MZ,L2.tSl,L2.S1,L2.TQ,L2.HX,L2.KE,L2.UH,L2.UM,L2.tBM,L2.WJ,L2.xF,List.map_cons,List.map_nil,List.length_cons,List.length_nil,List.replicate_succ,List.replicate_zero,Nat.sub_self,Nat.sub_zero,Nat.reduceAdd,Nat.reduceSub,List.append_nil,List.nil_append,List.cons_append,List.getElem?_cons_zero,List.getElem?_cons_succ,List.set_cons_zero,List.set_cons_succ,Option.some.injEq,L2.V.int.injEq,L2.V.bl.injEq,L2.V.ref.injEq,L2.V.str.injEq,List.cons.injEq,exists_eq_left',exists_eq_left,exists_and_left,exists_eq_right,and_true,true_and])
namespace TC
open PySem PySem.Spec PyProof.Rows L2 XF VaprbBase Mth
theorem xZ {xs:List V}{a b:Nat}(h1:a<=b)(h2:b<=xs.length):sP xs (some (a:Int)) (some (b:Int))=(xs.drop a).take (b-a):=by
 have e1:HT.sIx xs.length 0 (some (a:Int))=a:=by rw[HT.sIx_nat,Nat.min_eq_left (by lia)]
 have e2:HT.sIx xs.length xs.length (some (b:Int))=b:=by rw[HT.sIx_nat,Nat.min_eq_left h2]
 unfold sP;rw[e1,e2]
theorem HZ {α:Type}(p:α->Bool)(l:List α):l.take (l.takeWhile p).length=l.takeWhile p:=(List.prefix_iff_eq_take.mp (List.takeWhile_prefix p)).symm
theorem KY:∀ (r:Bytes) (n:Nat),n<=r.foldl (λn b=>10*n+(b.toNat-48)) n
 | [],n=>Nat.le_refl _
 | b::r,n=>Nat.le_trans (by lia) (KY r (10*n+(b.toNat-48)))
theorem KZ (l:Bytes)(b:UInt8):decimal (l++[b])=10*decimal l+(b.toNat-48):=by
 unfold decimal;rw[List.foldl_append];rfl
theorem L4 {b:UInt8}{r:Bytes}(h:decimal (b::r)=0):b.toNat<=48:=by
 unfold decimal at h
 have:=KY r (10*0+(b.toNat-48))
 have h:r.foldl (λn b=>10*n+(b.toNat-48)) (10*0+(b.toNat-48))=0:=h;lia
theorem sG {b:UInt8}:isDigit b=true↔48<=b.toNat/\b.toNat<=57:=by
 unfold isDigit;rw[decide_eq_true_eq]
theorem x0 {m:Bool}{l:Bytes}(h:l.length=0∨10<l.length):numberOf m l=none:=by
 unfold numberOf;rw[if_pos]
 rcases h with h|h
 ·exact .inl (List.eq_nil_of_length_eq_zero h)
 ·exact .inr (.inl h)
theorem x5 {m:Bool}{b:UInt8}{r:Bytes}(hb:b=48)(h:m=true∨1<(b::r).length):numberOf m (b::r)=none:=by
 subst hb;unfold numberOf
 by_cases h1:1<(48::r:Bytes).length
 ·rw[if_pos (.inr (.inr ⟨h1,rfl⟩))]
 ·have hm:=h.resolve_right h1
  have:r=[]:=by
   cases r with
   | nil=>rfl
   | cons _ _=>simp at h1
  subst this hm;decide
theorem J3 {m:Bool}{l:Bytes}(h:NUMBER<decimal l):numberOf m l=none:=by
 unfold numberOf
 split
 ·rfl
 ·rw[if_pos (.inl h)]
theorem LU {m:Bool}{b:UInt8}{r:Bytes}(hl:(b::r).length<=10)(hd:isDigit b=true)(hz:¬ (b=48/\(m=true∨1<(b::r).length)))(h:¬ NUMBER<decimal (b::r)):
  numberOf m (b::r)=some (if m=true then -(decimal (b::r):Int) else (decimal (b::r):Int)):=by
 unfold numberOf;rw[if_neg,if_neg]
 ·rintro (z|⟨z1,z2⟩)
  ·exact h z
  ·have:=L4 z2
   have h2:=(sG.mp hd).1;exact hz ⟨UInt8.toNat_inj.mp (show b.toNat=(48:UInt8).toNat from (by show b.toNat=48;lia)),.inl z1⟩
 ·rintro (z|z|⟨z1,z2⟩)
  ·cases z
  ·lia
  ·exact hz ⟨Option.some.inj z2,.inr z1⟩
def QU (t u:TS):TS:=λD σ H=>∃ R:L2.St->Hp->Prop,t { D with nx:=R } σ H/\∀ σ' H',R σ' H'->u D σ' H'
theorem aM {X:Cx}{st:Stmt}{rest:List Stmt}{t u:TS}(h1:PS X st t)(h2:PSs X rest u):PSs X (st::rest) (QU t u):=by
 intro pins s σ H D I h;obtain ⟨R,q,k⟩:=h;refine wpAny_execs_cons (thn (h1 pins s σ H { D with nx:=R } I q) λf s1 z=>?_)
 cases f with
 | next=>
  obtain ⟨σ',H',I',z⟩:=z;exact h2 pins s1 σ' H' D I' (k σ' H' z)
 | ret v=>exact z
 | brk=>exact z
 | cont=>exact z
theorem jC {CT:Addr}{H:Hp}{Q:VK}{k:Int}{x:V}{p b:Int}(q:∀ (t:Addr) (H':Hp),DA CT H' t k x p b->aH [] H H'->Q (.ref t) H'):
  ∀ y dx:Addr,H y=none->H dx=none->dx≠y->kF CT [.ref y,.int k,x,.int p,.int b] (upd (upd H dx (.own y)) y (.ins CT dx [])) (λv H2=>v=.non/\Q (.ref y) H2) E0:=
 λy dx hy hd ne=>⟨y,dx,k,x,p,b,rfl,aA,λH' to kp=>⟨rfl,q y H' to λc o z _=>kp c o (by rw[aB (aD z hy),aB (aD z hd)];exact z) (aD z hy)⟩⟩
section
variable {P:Program}{w:World}{K:PySem.W.Frag}{mg:Str->Option Value}{base:Heap}
structure S8 (mg:Str->Option Value):Prop where
 len:mg "len" = none
 mn:GI mg "MINUS" 45
 md:GI mg "MOST_DIGITS" 10
 nt:GI mg "NO_TOKEN" 2
 z:GI mg "ZERO_words" 48
 gn:GI mg "GREATEST_NUMBER" 1000000000
 nu:GI mg "NUMBER_words" 2
inductive HQ (K:PySem.W.Frag) (C CT:Addr) (vs:List V) (H:Hp) (Q:VK) (E:XK):Prop
 | mk:∀ (a:Addr) (bs:List UInt8) (p:Nat) (b:UInt8),vs=[.ref a,.int p]->TxL K H a bs->bs[p]?=some b->(match numberOf (b==45) ((bs.drop (if (b==45)=true then p+1 else p)).takeWhile isDigit) with
  | none=>Flt C E [] H 2 p
  | some n=>∀ (t:Addr) (H':Hp),DA CT H' t 2 (.int n) p ((if (b==45)=true then p+1 else p)+((bs.drop (if (b==45)=true then p+1 else p)).takeWhile isDigit).length:Nat)->aH [] H H'->Q (.ref t) H')->HQ K C CT vs H Q E
theorem sI:aO ["text","place","below","begin","behind","digits","size","digit"] ["text","place"] (aI j4):=by walk_at "s"
theorem T6 {f g C fC CT fT gd1:Addr}{fd gd cd td dd:FuncData}(N:S8 mg)(F:Def K mg "number_at" j4 ["text","place"] f fd)(G:Def K mg "behind_digits" dH ["text","place"] g gd)(GG:Def K mg "is_digit" gB ["byte"] gd1 dd)
  (T:gE K mg C fC cd) (TK:fJ K mg CT fT td):aN P w K mg base (CXF P w C) 3 f fd ["text","place"] (HQ K C CT):=by
 have GB:aN P w K mg base CX0 2 g gd ["text","place"] (EL K):=P9 N.len G GG;have GT:aN P w K mg base CX0 1 fT td ["self","kind","said","place","behind"] (kF CT):=pH TK;refine F.fn.okX sI (λvs H Q E h=>?_) (λcdv A outer s H vs Q E hr h=>?_)
 ·walk_at "l"
 ·obtain ⟨a,bs,p,b,rfl,hS,hb,q⟩:=h
  refine ⟨_,aG (aQ (i:=2) sI.nd rfl (Or.inl rfl) (gU bV (aK aL (pv 0) (pv 1) (λ_ _=>rfl)) (pgi N.mn) (aY _)))
   (aM (aQ (i:=3) sI.nd rfl (Or.inl rfl) (BO (cE (pv 2)) (b7 dJ (pv 1) aF) (pv 1)))
   (aG (aQ (i:=4) sI.nd rfl (Or.inl rfl) (aS GB hr (by rfl) G.at_ G.fn.kp G.bd .nil aR (a9 (pv 0) (a9 (pv 3) aC))))
   (aG (aQ (i:=5) sI.nd rfl (Or.inl rfl) (pP t5 (pv 0) (jW (pv 3)) (jW (pv 4))))
   (aM (bC (PW.pt (kO (aT bV (b9 aU (by rfl) N.len PySem.boot_len (a9 (pv 5) aC)) aF (aY _)) (iJ (aT sH (b9 aU (by rfl) N.len PySem.boot_len (a9 (pv 5) aC)) (pgi N.md) (aY _)))))
    (aE (cK (k:=0) T rfl dB hr (pgi N.nt) (pv 1))) aV)
   (aM (bC (PW.pt (jZ (aT bV (aK aL (pv 5) aF (λ_ _=>rfl)) (pgi N.z) (aY _)) (gV (PW.pt (kO (cE (pv 2)) (iJ (aT sH (b9 aU (by rfl) N.len PySem.boot_len (a9 (pv 5) aC)) aF (aY _))))))))
    (aE (cK (k:=0) T rfl dB hr (pgi N.nt) (pv 1))) aV)
   (aG (aQ (i:=6) sI.nd rfl (Or.inl rfl) aF)
   (aM (jX ML rfl (jV (pv 5)) (dQ (i:=7) sI.nd rfl (Or.inl rfl)) (aE (aQ (i:=6) sI.nd rfl (Or.inl rfl) (b7 gG (b7 dJ (b7 DZ (pv 6) aF) (pv 7)) (pgi N.z)))))
   (aG (bC (aT sH (pv 6) (pgi N.gn) (aY _)) (aE (cK (k:=0) T rfl dB hr (pgi N.nt) (pv 1))) aV)
   (aE (aP (cD TK.mak GT hr (by rfl) TK.at_ TK.bd .nil aR (a9 (pgi N.nu) (a9 (BO (cE (pv 2)) (MO F1 (pv 6)) (pv 6)) (a9 (pv 1) (a9 (pv 4) aC))))))))))))))),?_⟩
  k_caughtN0;refine ⟨_,hS,_,TxL.at_ hb,?_⟩;k_caughtN0
  have e45:decide ((b.toNat:Int)=45)=(b==45):=by
   rw[Bool.eq_iff_iff,decide_eq_true_eq,beq_iff_eq];exact b45
  rw[e45];generalize hm:(b==45)=m at q ⊢;generalize hbg:(if m=true then p+1 else p)=bg at q;have hplt:p<bs.length:=(List.getElem?_eq_some_iff.mp hb).1
  have hbl:bg<=bs.length:=by
   rw[← hbg]
   split<;>lia
  generalize hl:(bs.drop bg).takeWhile isDigit=l at q
  have hll:bg+l.length<=bs.length:=by
   have:=cY isDigit (bs.drop bg)
   rw[hl,List.length_drop] at this;lia
  have hdig:∀ x∈l,isDigit x=true:=λx hx=>by
   rw[← hl] at hx;exact List.all_eq_true.mp List.all_takeWhile x hx
  have hcut:sP (bs.map λb=>V.int b.toNat) (some (bg:Int)) (some ((bg+l.length:Nat):Int))=l.map λb=>V.int b.toNat:=by
   rw[xZ (by lia) (by rw[List.length_map];exact hll),← List.map_drop,← List.map_take,show bg+l.length-bg=l.length by lia,← hl,HZ]
  refine ⟨λσ' H'=>σ'=[some (.ref a),some (.int p),some (.bl m),some (.int bg),none,none,none,none]/\H'=H,?_,?_⟩
  ·k_caughtN0
   cases m with
   | true=>rw[if_pos rfl,← hbg,if_pos rfl];rfl
   | false=>rw[if_neg Bool.false_ne_true,← hbg,if_neg Bool.false_ne_true]
  ·rintro σ1 H1 ⟨rfl,rfl⟩;k_caughtN0;refine ⟨a,bs,bg,rfl,hS,hbl,?_⟩;rw[hl];refine ⟨_,rfl,_,hS,λp1 n1=>?_⟩;rw[hcut];have k1:aH [] H1 (upd H1 p1 (.lst (l.map λb=>V.int b.toNat))):=aH.laid n1;have hD:TxL K (upd H1 p1 (.lst (l.map λb=>V.int b.toNat))) p1 l:=SqL.of aA;generalize hH2:upd H1 p1 (.lst (l.map λb=>V.int b.toNat))=H2 at k1 hD ⊢
   have flt:numberOf m l=none->Flt C E [] H2 2 p:=λz=>by
    rw[z] at q;exact Flt.keep q k1
   refine ⟨λσ' H'=>σ'=[some (.ref a),some (.int p),some (.bl m),some (.int bg),some (.int ((bg+l.length:Nat):Int)),some (.ref p1),none,none]/\H'=H2/\0<l.length/\l.length<=10,?_,?_⟩
   ·k_caughtN0;refine ⟨_,.inl hD,?_⟩;rw[List.length_map]
    by_cases h0:l.length=0
    ·rw[if_pos (decide_eq_true (by lia)),if_pos trivial];exact flt (x0 (.inl h0))
    ·rw[if_neg (by simp only[decide_eq_true_eq];lia)];refine ⟨_,.inl hD,?_⟩;rw[List.length_map]
     by_cases h1:10<l.length
     ·rw[if_pos (decide_eq_true (by lia))];exact flt (x0 (.inr h1))
     ·rw[if_neg (by simp only[decide_eq_true_eq];lia)];exact ⟨by lia,by lia⟩
   ·rintro σ3 H3 ⟨rfl,rfl,l0,l10⟩
    obtain ⟨b0,r0,rfl⟩:∃ b0 r0,l=b0::r0:=by
     cases l with
     | nil=>simp at l0
     | cons x y=>exact ⟨x,y,rfl⟩
    have hb0:isDigit b0=true:=hdig b0 List.mem_cons_self;refine ⟨λσ' H'=>σ'=[some (.ref a),some (.int p),some (.bl m),some (.int bg),some (.int ((bg+(b0::r0).length:Nat):Int)),some (.ref p1),none,none]/\H'=H3/\¬ (b0=48/\(m=true∨1<(b0::r0).length)),?_,?_⟩
    ·k_caughtN0;refine ⟨_,hD,_,aX (j:=0) rfl,?_⟩;k_caughtN0
     by_cases h48:b0=48
     ·rw[if_pos (decide_eq_true (b48.mpr h48))]
      cases m with
      | true=>
       rw[if_pos rfl,if_pos trivial];exact flt (x5 h48 (.inl rfl))
      | false=>
       rw[if_neg Bool.false_ne_true];refine ⟨_,.inl hD,?_⟩;rw[List.length_map]
       by_cases h1:1<(b0::r0).length
       ·rw[if_pos (decide_eq_true (by lia))];exact flt (x5 h48 (.inr h1))
       ·rw[if_neg (by simp only[decide_eq_true_eq];lia)];exact λz=>z.2.elim (λy=>nomatch y) h1
     ·rw[if_neg (by simpa using λz=>h48 (b48.mp z)),if_neg Bool.false_ne_true];exact λz=>h48 z.1
    ·rintro σ4 H4 ⟨rfl,rfl,nz⟩;k_caughtN0;refine ⟨λσ' H'=>∃ d:Option V,σ'=[some (.ref a),some (.int p),some (.bl m),some (.int bg),some (.int ((bg+(b0::r0).length:Nat):Int)),some (.ref p1),some (.int (decimal (b0::r0):Nat)),d]/\H'=H4,?_,?_⟩
     ·refine ⟨_,rfl,p1,rfl,⟨_,hD⟩,oY (K:=K) (a:=p1) (xs:=(b0::r0).map λb=>V.int b.toNat) (λi σ' H'=>∃ d:Option V,σ'=[some (.ref a),some (.int p),some (.bl m),some (.int bg),some (.int ((bg+(b0::r0).length:Nat):Int)),some (.ref p1),some (.int (decimal ((b0::r0).take i):Nat)),d]/\H'=H4)
       ⟨none,rfl,rfl⟩ (λi σ' H' _ ⟨_,_,z⟩=>z▸hD) ?_ ?_⟩
      ·rintro i y σ' H' hy ⟨d,rfl,rfl⟩;rw[List.getElem?_map] at hy
       cases e:(b0::r0)[i]? with
       | none=>rw[e] at hy;cases hy
       | some x=>
        rw[e] at hy;cases hy;k_caughtN0;refine ⟨.inr ⟨by decide,by decide⟩,?_,_,rfl⟩;have hx:=(sG.mp (hdig x (List.mem_of_getElem? e))).1;have tk:(b0::r0).take (i+1)=(b0::r0).take i++[x]:=by rw[List.take_succ,e];rfl
        rw[tk,KZ];lia
      ·rintro σ' H' ⟨d,rfl,rfl⟩;rw[List.length_map,List.take_length];exact ⟨d,rfl,rfl⟩
     ·rintro σ5 H5 ⟨d,rfl,rfl⟩;k_caughtN0
      by_cases hg:NUMBER<decimal (b0::r0)
      ·have hg':1000000000<decimal (b0::r0):=hg;rw[if_pos (decide_eq_true (by lia))];exact flt (J3 hg)
      ·have hg':¬ 1000000000<decimal (b0::r0):=hg;rw[if_neg (by simp only[decide_eq_true_eq];lia)];rw[LU l10 hb0 nz hg] at q
       cases m with
       | true=>
        rw[if_pos rfl];exact jC λt H' to kp=>q t H' to (k1.trans kp)
       | false=>
        rw[if_neg Bool.false_ne_true];exact jC λt H' to kp=>q t H' to (k1.trans kp)
inductive NH (K:PySem.W.Frag) (vs:List V) (H:Hp) (Q:VK) (E:XK):Prop
 | mk:∀ (a:Addr) (bs:List UInt8) (p:Nat) (b:UInt8),vs=[.ref a,.int p]->TxL K H a bs->bs[p]?=some b->Q (.bl (b==45&&decide (bs[p+1]?=some 62))) H->NH K vs H Q E
theorem WD:aO ["text","place"] ["text","place"] (aI lL):=by walk_at "s"
theorem SW {f:Addr}{fd:FuncData}(len:mg "len" = none)(mn:GI mg "MINUS" 45)(gr:GI mg "GREATER" 62)(F:Def K mg "is_arrow" lL ["text","place"] f fd):aN P w K mg base CX0 1 f fd ["text","place"] (NH K):=by
 refine F.fn.ok WD (λvs H Q E h=>?_) (λcdv A outer s H vs Q E hr h=>?_)
 ·walk_at "l"
 ·obtain ⟨a,bs,p,b,rfl,hS,hb,q⟩:=h
  refine ⟨_,aE (aP (yO (gU bV (aK aL (pv 0) (pv 1) (λ_ _=>rfl)) (pgi mn) (aY _)) (yO (gU eZ (b7 dJ (pv 1) aF) (b9 aU (by rfl) len PySem.boot_len (a9 (pv 0) aC)) (aY _))
   (yQ (gU bV (aK aL (pv 0) (b7 dJ (pv 1) aF) (λ_ _=>rfl)) (pgi gr) (aY _)))))),?_⟩
  k_caughtN0;refine ⟨_,hS,_,TxL.at_ hb,?_⟩;k_caughtN0
  by_cases h45:b=45
  ·rw[if_pos (decide_eq_true (b45.mpr h45))];refine ⟨_,.inl hS,?_⟩;rw[List.length_map];have e1:(b==45)=true:=beq_iff_eq.mpr h45;rw[e1,Bool.true_and] at q
   by_cases hlt:p+1<bs.length
   ·rw[if_pos (decide_eq_true (by lia))]
    obtain ⟨c,hc⟩:∃ c,bs[p+1]?=some c:=⟨_,List.getElem?_eq_getElem hlt⟩
    have at2:=TxL.at_ hc;rw[Int.natCast_add] at at2;refine ⟨_,hS,_,at2,?_⟩;k_caughtN0;rw[hc] at q;rw[show decide ((c.toNat:Int)=62)=decide (some c=some (62:UInt8)) from decide_eq_decide.mpr ⟨λz=>by rw[b62.mp z],λz=>b62.mpr (Option.some.inj z)⟩];exact q
   ·rw[if_neg (by simp only[decide_eq_true_eq];lia)];rw[List.getElem?_eq_none (Nat.le_of_not_lt hlt)] at q;exact q
  ·rw[if_neg (by simpa using λz=>h45 (b45.mp z))];have e1:(b==45)=false:=beq_eq_false_iff_ne.mpr h45;rw[e1,Bool.false_and] at q;exact q
def cB (w:Bytes):Str:=⟨(w.map (·.toNat)).toArray⟩
def wI:Str := "0123456789:;<=>?@ABCDEFGHIJKLMNOPQRSTUVWXYZ[\\]^_`abcdefghijklmnopqrstuvwxyz"
def kP (b:UInt8):Bool:=isLetter b||isDigit b
theorem KR:∀ n:Fin 256,(kP (UInt8.ofNat n.val)=true->atI wI.cps.toList ((n.val:Int)-48)=some n.val):=by decide +kernel
theorem OR {b:UInt8}(h:kP b=true):atI wI.cps.toList ((b.toNat:Int)-48)=some b.toNat:=by
 have:=KR ⟨b.toNat,b.toNat_lt⟩ (by show kP (UInt8.ofNat b.toNat)=true;rw[UInt8.ofNat_toNat];exact h)
 exact this
theorem IH:wI.length<=sizeLine:=by decide +kernel
theorem wR:∀ l:List (List Nat),TL.wQ [] l=l.flatten
 | []=>rfl
 | [p]=>by simp[TL.wQ]
 | p::q::r=>by
  rw[TL.wQ,wR (q::r)];rfl
theorem AR:∀ w:Bytes,((w.map λb=>(⟨#[b.toNat]⟩:Str)).map TL.tl).flatten=w.map (·.toNat)
 | []=>rfl
 | b::r=>by
  show [b.toNat]++((r.map λb=>(⟨#[b.toNat]⟩:Str)).map TL.tl).flatten=b.toNat::r.map (·.toNat);rw[AR r];rfl
theorem IU (w:Bytes):Txt.join ("" : Str) (w.map λb=>(⟨#[b.toNat]⟩:Str))=cB w:=by
 rw[TL.OZ];have e:=TL.IA ("" : Str) (w.map λb=>(⟨#[b.toNat]⟩:Str));rw[show TL.tl ("" : Str)=[] by decide +kernel,wR,AR] at e;refine ext_toList ?_;rw[show (cB w).cps.toList=w.map (·.toNat) by simp[cB]];exact e
inductive ET (K:PySem.W.Frag) (C CT:Addr) (vs:List V) (H:Hp) (Q:VK) (E:XK):Prop
 | mk:∀ (a:Addr) (bs:List UInt8) (p:Nat),vs=[.ref a,.int p]->TxL K H a bs->p<=bs.length->(if 16<((bs.drop p).takeWhile kP).length then Flt C E [] H 2 p
  else ∀ (t:Addr) (H':Hp),DA CT H' t 1 (.str (cB ((bs.drop p).takeWhile kP))) p (p+((bs.drop p).takeWhile kP).length:Nat)->aH [] H H'->Q (.ref t) H')->ET K C CT vs H Q E
structure KM (mg:Str->Option Value):Prop where
 len:mg "len" = none
 lw:GI mg "LONGEST_WORD" 16
 nt:GI mg "NO_TOKEN" 2
 z:GI mg "ZERO_words" 48
 ch:GS mg "CHARACTERS" wI
 wd:GI mg "WORD" 1
theorem rK:aO ["text","place","behind","said","byte"] ["text","place"] (aI mI):=by walk_at "s"
theorem OM:tD ["text","place","behind","said","byte"] (aI mI) { kind:=.function,names:=[(".0",.local),("byte",.local),("CHARACTERS",.globalImplicit),("ZERO_words",.globalImplicit)],isGenerator:=false,isCoroutine:=false } [("byte",4)]:=
 ⟨rfl,by decide +kernel,by decide +kernel,by decide +kernel,by decide +kernel⟩
theorem PY {f C fC CT fT g1 g2:Addr}{fd cd td d1 d2:FuncData}(N:KM mg)(F:Def K mg "word_at" mI ["text","place"] f fd)(G1:Def K mg "is_letter" gY ["byte"] g1 d1)(G2:Def K mg "is_digit" gB ["byte"] g2 d2)
  (T:gE K mg C fC cd) (TK:fJ K mg CT fT td):aN P w K mg base (CXF P w C) 3 f fd ["text","place"] (ET K C CT):=by
 have GL:aN P w K mg base CX0 1 g1 d1 ["byte"] qA:=x8 G1;have GD:aN P w K mg base CX0 1 g2 d2 ["byte"] pZ:=uH G2;have GT:aN P w K mg base CX0 1 fT td ["self","kind","said","place","behind"] (kF CT):=pH TK;refine F.fn.okX rK (λvs H Q E h=>?_) (λcdv A outer s H vs Q E hr h=>?_)
 ·walk_at "l"
 ·obtain ⟨a,bs,p,rfl,hS,hp,q⟩:=h;have hr1:cI 1 _:=hr.mono (by decide)
  refine ⟨_,aG (aQ (i:=2) rK.nd rfl (Or.inl rfl) (pv 1))
   (aM (eC ML (PW.pt (jZ (aT eZ (pv 2) (b9 aU (by rfl) N.len PySem.boot_len (a9 (pv 0) aC)) (aY _))
    (gV (PW.pt (kO (cE (aS GL hr1 (by rfl) G1.at_ G1.fn.kp G1.bd .nil aR (a9 (aK aL (pv 0) (pv 2) (λ_ _=>rfl)) aC))) (iJ (cE (aS GD hr1 (by rfl) G2.at_ G2.fn.kp G2.bd .nil aR (a9 (aK aL (pv 0) (pv 2) (λ_ _=>rfl)) aC)))))))))
    (aE (yS (i:=2) rK.nd rfl (Or.inl rfl) aF yD)))
   (aM (bC (aT sH (b7 gG (pv 2) (pv 1)) (pgi N.lw) (aY _)) (aE (cK (k:=0) T rfl dB hr (pgi N.nt) (pv 1))) aV)
   (aM (aQ (i:=3) rK.nd rfl (Or.inl rfl) (Q2 dU (GQ (own:=[("byte",4)]) rfl rK.nd (jV (pP t5 (pv 0) (jW (pv 1)) (jW (pv 2)))) OM
     (λ_ _ _ _ _=>dQ (i:=4) rK.nd rfl (Or.inl rfl)) (λ_ _ _ _ _=>yU) (λ_ _ _ _ _=>aK SO (pgs N.ch) (b7 gG (pv 4) (pgi N.z)) (λ_ _=>rfl)))))
   (aE (aP (cD TK.mak GT hr (by rfl) TK.at_ TK.bd .nil aR (a9 (pgi N.wd) (a9 (pv 3) (a9 (pv 1) (a9 (pv 2) aC)))))))))),?_⟩
  k_caughtN0;generalize hl:(bs.drop p).takeWhile kP=l at q
  have hll:p+l.length<=bs.length:=by
   have:=cY kP (bs.drop p)
   rw[hl,List.length_drop] at this;lia
  have hal:∀ x∈l,kP x=true:=λx hx=>by
   rw[← hl] at hx;exact List.all_eq_true.mp List.all_takeWhile x hx
  have hcut:sP (bs.map λb=>V.int b.toNat) (some (p:Int)) (some ((p+l.length:Nat):Int))=l.map λb=>V.int b.toNat:=by
   rw[xZ (by lia) (by rw[List.length_map];exact hll),← List.map_drop,← List.map_take,show p+l.length-p=l.length by lia,← hl,HZ]
  refine ⟨λσ' H'=>σ'=[some (.ref a),some (.int p),some (.int ((p+l.length:Nat):Int)),none,none]/\H'=H,?_,?_⟩
  ·refine ⟨λm σ' H'=>∃ k:Nat,σ'=[some (.ref a),some (.int p),some (.int k),none,none]/\H'=H/\k<=bs.length/\k+((bs.drop k).takeWhile kP).length=p+l.length/\m=bs.length-k,⟨_,p,rfl,rfl,hp,by rw[hl],rfl⟩,?_⟩;rintro m σ' H' ⟨k,rfl,rfl,hk,he,rfl⟩;k_caughtN0;refine ⟨_,.inl hS,?_⟩;rw[List.length_map]
   by_cases hlt:k<bs.length
   ·obtain ⟨b,hb⟩:∃ b,bs[k]?=some b:=⟨_,List.getElem?_eq_getElem hlt⟩
    rw[if_pos (decide_eq_true (by lia))];refine ⟨_,hS,_,TxL.at_ hb,b,rfl,_,rfl,?_⟩
    have go:kP b=true->∃ N:L2.St->Hp->Prop,(∀ σ2 H2,N σ2 H2->∃ m',m'<bs.length-k/\∃ k:Nat,σ2=[some (V.ref a),some (V.int p),some (V.int k),none,none]/\H2=H'/\k<=bs.length/\k+((bs.drop k).takeWhile kP).length=p+l.length/\m'=bs.length-k)/\N [some (V.ref a),some (V.int p),some (V.int ((k:Int)+1)),none,none] H':=λhd=>by
     rw[rV hb hd] at he;exact ⟨λσ2 H2=>σ2=[some (.ref a),some (.int p),some (.int ((k+1:Nat):Int)),none,none]/\H2=H',λσ2 H2 z=>⟨bs.length-(k+1),by lia,k+1,z.1,z.2,by lia,by lia,rfl⟩,by rw[Int.natCast_add];rfl,rfl⟩
    cases h1:isLetter b with
    | true=>
     rw[if_pos rfl,if_pos trivial];exact go (by unfold kP;rw[h1];rfl)
    | false=>
     rw[if_neg Bool.false_ne_true];refine ⟨_,hS,_,TxL.at_ hb,b,rfl,_,rfl,?_⟩
     cases h2:isDigit b with
     | true=>
      rw[if_pos rfl];exact go (by unfold kP;rw[h1,h2];rfl)
     | false=>
      rw[if_neg Bool.false_ne_true];rw[O8 hb (show kP b=false by unfold kP;rw[h1,h2];rfl),Nat.add_zero] at he;rw[he]
      try exact ⟨rfl,rfl⟩
   ·rw[if_neg (by simp only[decide_eq_true_eq];lia),if_neg Bool.false_ne_true];rw[EZ (Nat.le_of_not_lt hlt),Nat.add_zero] at he;rw[he]
    try exact ⟨rfl,rfl⟩
  ·rintro σ1 H1 ⟨rfl,rfl⟩;refine ⟨λσ' H'=>σ'=[some (.ref a),some (.int p),some (.int ((p+l.length:Nat):Int)),none,none]/\H'=H1/\¬ 16<l.length,?_,?_⟩
   ·k_caughtN0
    by_cases h16:16<l.length
    ·rw[if_pos (decide_eq_true (by lia))];rw[if_pos h16] at q;exact q
    ·rw[if_neg (by simp only[decide_eq_true_eq];lia)];exact h16
   ·rintro σ2 H2 ⟨rfl,rfl,h16⟩;rw[if_neg h16] at q;refine ⟨λσ' H'=>∃ x:Option V,σ'=[some (.ref a),some (.int p),some (.int ((p+l.length:Nat):Int)),some (.str (cB l)),x]/\aH [] H2 H',?_,?_⟩
    ·have sum1:∀ m:Bytes,((m.map λb=>(⟨#[b.toNat]⟩:Str)).map (·.length)).sum=m.length:=λm=>by
      induction m with
      | nil=>rfl
      | cons b r ih=>
       rw[List.map_cons,List.map_cons,List.sum_cons,ih,List.length_cons,Nat.add_comm];rfl
     refine ⟨⟨_,rfl⟩,_,rfl,_,rfl,_,rfl,_,rfl,_,rfl,a,_,rfl,hS,λp1 n1=>?_⟩;rw[hcut];refine ⟨p1,rfl,⟨_,SqL.of aA⟩,λD nD=>?_⟩;have nD2:D≠p1:=λz=>by rw[z,aA] at nD;cases nD
     refine yE (K:=K) (a:=p1) (xs:=l.map λb=>V.int b.toNat) (λi H'=>H' D=some (.lst ((l.take i).map λb=>V.str ⟨#[b.toNat]⟩))/\H' p1=some (.lst (l.map λb=>V.int b.toNat))/\aH [] H2 H')
      ⟨aA,by rw[aB (Ne.symm nD2),aA],(aH.laid n1).trans (aH.laid nD)⟩ (λi H' _ z=>SqL.of z.2.1) ?_ ?_
     ·rintro i y H' hy ⟨z1,z2,z3⟩;rw[List.getElem?_map] at hy
      cases e:l[i]? with
      | none=>rw[e] at hy;cases hy
      | some x=>
       rw[e] at hy;cases hy;have tk:l.take (i+1)=l.take i++[x]:=by rw[List.take_succ,e];rfl
       refine ⟨rfl,?_⟩;simp only[L2.WO,if_true];refine ⟨_,rfl,_,_,rfl,rfl,wI,_,_,rfl,rfl,IH,OR (hal x (List.mem_of_getElem? e)),_,z1,?_,?_⟩
       ·rw[List.length_map,List.length_take]
        have:l.length<=16:=by lia
        exact Nat.lt_of_le_of_lt (Nat.le_trans (Nat.min_le_right _ _) this) (by decide)
       ·refine ⟨?_,by rw[aB (Ne.symm nD2)];exact z2,λb o q0 _=>?_⟩
        ·rw[aA,tk,List.map_append];rfl
        ·have nb:b≠D:=λz=>by
          rw[z] at q0
          have:=aH.laid (S:=[]) n1 (o:=.lst (l.map λb=>V.int b.toNat)) D o q0 (by simp)
          rw[nD] at this;cases this
         rw[aB nb];exact z3 b o q0 (by simp)
     ·rintro H' ⟨z1,z2,z3⟩;rw[List.length_map,List.take_length] at z1;refine ⟨_,rfl,D,rfl,l.map λb=>(⟨#[b.toNat]⟩:Str),.inl (SqL.of (by rw[List.map_map];exact z1)),?_,?_⟩
      ·rw[sum1,show (("" : Str)).length=0 by decide +kernel];lia
      ·rw[IU];exact ⟨_,rfl,z3⟩
    ·rintro σ3 H3 ⟨x,rfl,k3⟩;k_caughtN0;exact jC λt H' to kp=>q t H' to (k3.trans kp)
structure xQ (P:Program)(w:World)(K:PySem.W.Frag)(a:Addr)(kvs:List (Key×V)):Prop where
 ns:(a==sysModules)=false
 at_:∀ h:Heap,K.In h->∃ vs,KV kvs vs/\h.DictOf (cM P w) a vs
section
variable {X:Cx}{a:Addr}{kvs:List (Key×V)}{o i:Expr}{pos:Pos}{td ty:TE}
theorem BJ (g:xQ X.prog X.w X.K a kvs):OpR X (compareOp .In) (λx y H Q=>∃ k,x=kV k/\y=.ref a/\Q (.bl (dO kvs k).isSome) H):=by
 intro pins s σ H x y v u Q I rx ry h;obtain ⟨k,rfl,rfl,q⟩:=h;cases ry;obtain ⟨vs,rel,dd⟩:=g.at_ _ I.kIn;refine wpAny_in_of (wS rx) g.ns dd.mapOf ?_;rw[← (rel.val k).isSome_eq];exact ⟨.bl _,H,I.tok _,rfl,q⟩
inductive rGd (a:Addr) (kvs:List (Key×V)) (x y:V) (H:Hp) (Q:VK):Prop
 | mk:∀ k v,x=.ref a->y=kV k->dO kvs k=some v->Q v H->rGd a kvs x y H Q
theorem RK (g:xQ X.prog X.w X.K a kvs)(ho:PE X o td)(hi:PE X i ty)(hs:OG i):PE X (.Subscript o i pos) (tOp (rGd a kvs) td ty):=by
 intro pins s σ H Q I h;refine zY PySem.F.slot_dict_getitem.lookup hs (thn (ho pins s σ H _ I h) λu s1 ⟨x,H1,I1,rx,q1⟩=>thn (hi pins s1 σ H1 _ I1 q1) λiv s2 ⟨y,H2,I2,ry,k,v,ex,ey,l,q2⟩=>?_);subst ex ey;obtain rfl:u=Value.ref a:=rx;obtain ⟨vs,rel,dd⟩:=g.at_ _ I2.kIn;obtain ⟨w',hw,rw'⟩:=gM.some_of (v:=v) (o:=valueAt vs k) (by rw[← l];exact rel.val k);exact ⟨dd.typeIs,wpAny_getItem_of (wS ry) dd.mapOf hw ⟨v,H2,I2.tok _,rw',q2⟩⟩
end
def fO:VaprbBase.Tok->Int
 | .name _=>1
 | .num _=>2
 | .sign _=>3
 | .halt_=>4
def WP:VaprbBase.Tok->V
 | .name w=>.str (cB w)
 | .num n=>.int n
 | .sign c=>.str (if c=1 then "->" else ⟨#[c]⟩)
 | .halt_=>.str ""
def v7:List (Key×V):=([61,123,125,40,41,91,93,44,59,58,47,124]:List Nat).map λ(c:Nat)=>((Sum.inl (c:Int):Key),V.str ⟨#[c]⟩)
theorem NF:∀ n:Fin 256,dO v7 (Sum.inl (n.val:Int))=if SIGNS.contains (UInt8.ofNat n.val)=true then some (V.str ⟨#[n.val]⟩) else none:=by decide +kernel
theorem C2 (b:UInt8):dO v7 (Sum.inl (b.toNat:Int))=if SIGNS.contains b=true then some (V.str ⟨#[b.toNat]⟩) else none:=by
 have:=NF ⟨b.toNat,b.toNat_lt⟩
 rw[show UInt8.ofNat (⟨b.toNat,b.toNat_lt⟩:Fin 256).val=b from UInt8.ofNat_toNat] at this;exact this
theorem JU {b:UInt8}(h:SIGNS.contains b=true):b.toNat≠1:=by
 intro z
 have:b=1:=UInt8.toNat_inj.mp z
 subst this
 revert h
 decide
structure V7 (P:Program)(w:World)(K:PySem.W.Frag)(mg:Str->Option Value):Prop where
 ng:S8 mg
 wg:KM mg
 gr:GI mg "GREATER" 62
 sg:GI mg "SIGN" 3
 ar:GS mg "ARROW" "->"
 si:∃ a,mg "SIGNS" = some (.ref a)/\xQ P w K a v7
structure RA (K:PySem.W.Frag)(mg:Str->Option Value)(fL fD fBD fW fN fA:Addr)(dL dD dBD dW dN dA:FuncData):Prop where
 l:Def K mg "is_letter" gY ["byte"] fL dL
 d:Def K mg "is_digit" gB ["byte"] fD dD
 bd:Def K mg "behind_digits" dH ["text","place"] fBD dBD
 w:Def K mg "word_at" mI ["text","place"] fW dW
 n:Def K mg "number_at" j4 ["text","place"] fN dN
 a:Def K mg "is_arrow" lL ["text","place"] fA dA
inductive zW (K:PySem.W.Frag) (C CT:Addr) (vs:List V) (H:Hp) (Q:VK) (E:XK):Prop
 | mk:∀ (a:Addr) (bs:List UInt8) (p:Nat) (b:UInt8),vs=[.ref a,.int p]->TxL K H a bs->bs[p]?=some b->(match token (bs.drop p) with
  | none=>Flt C E [] H 2 p
  | some (t,k)=>∀ (tk:Addr) (H':Hp),DA CT H' tk (fO t) (WP t) p (p+k:Nat)->aH [] H H'->Q (.ref tk) H')->zW K C CT vs H Q E
theorem HF:aO ["text","place","byte"] ["text","place"] (aI lO):=by walk_at "s"
theorem MA {f C fC CT fT fL fD fBD fW fN fA:Addr}{fd cd td dL dD dBD dW dN dA:FuncData}(N:V7 P w K mg)(F:Def K mg "token_at" lO ["text","place"] f fd)(W:RA K mg fL fD fBD fW fN fA dL dD dBD dW dN dA)
  (T:gE K mg C fC cd) (TK:fJ K mg CT fT td):aN P w K mg base (CXF P w C) 4 f fd ["text","place"] (zW K C CT):=by
 have GL:aN P w K mg base CX0 1 fL dL ["byte"] qA:=x8 W.l;have GD:aN P w K mg base CX0 1 fD dD ["byte"] pZ:=uH W.d;have GW:aN P w K mg base (CXF P w C) 3 fW dW ["text","place"] (ET K C CT):=PY N.wg W.w W.l W.d T TK;have GN:aN P w K mg base (CXF P w C) 3 fN dN ["text","place"] (HQ K C CT):=T6 N.ng W.n W.bd W.d T TK;have GA:aN P w K mg base CX0 1 fA dA ["text","place"] (NH K):=SW N.ng.len N.ng.mn N.gr W.a;have GT:aN P w K mg base CX0 1 fT td ["self","kind","said","place","behind"] (kF CT):=pH TK;obtain ⟨sa,sm,sd⟩:=N.si;refine F.fn.okX HF (λvs H Q E h=>?_) (λcdv A outer s H vs Q E hr h=>?_)
 ·walk_at "l"
 ·obtain ⟨a,bs,p,b,rfl,hS,hb,q⟩:=h;have hr1:cI 1 _:=hr.mono (by decide);have hr2:cI 2 _:=hr.mono (by decide)
  refine ⟨_,aG (aQ (i:=2) HF.nd rfl (Or.inl rfl) (aK aL (pv 0) (pv 1) (λ_ _=>rfl)))
   (aM (bC (cE (aS GL hr1 (by rfl) W.l.at_ W.l.fn.kp W.l.bd .nil aR (a9 (pv 2) aC))) (aE (aP (aS GW hr (by rfl) W.w.at_ W.w.fn.kp W.w.bd .nil cO (a9 (pv 0) (a9 (pv 1) aC))))) aV)
   (aM (bC (cE (aS GA hr1 (by rfl) W.a.at_ W.a.fn.kp W.a.bd .nil aR (a9 (pv 0) (a9 (pv 1) aC)))) (aE (aP (cD TK.mak GT hr2 (by rfl) TK.at_ TK.bd .nil aR (a9 (pgi N.sg) (a9 (pgs N.ar) (a9 (pv 1) (a9 (b7 dJ (pv 1) aF) aC))))))) aV)
   (aM (bC (PW.pt (kO (cE (aS GD hr1 (by rfl) W.d.at_ W.d.fn.kp W.d.bd .nil aR (a9 (pv 2) aC))) (iJ (aT bV (pv 2) (pgi N.ng.mn) (aY _))))) (aE (aP (aS GN hr (by rfl) W.n.at_ W.n.fn.kp W.n.bd .nil cO (a9 (pv 0) (a9 (pv 1) aC))))) aV)
   (aM (bC (aT (BJ sd) (pv 2) (pgr sm) (by with_unfolding_all rfl)) (aE (aP (cD TK.mak GT hr2 (by rfl) TK.at_ TK.bd .nil aR (a9 (pgi N.sg) (a9 (RK sd (pgr sm) (pv 2) (by first|exact λ_ _=>rfl|trivial|rfl)) (a9 (pv 1) (a9 (b7 dJ (pv 1) aF) aC))))))) aV)
   (aE (cK (k:=0) T rfl dB hr2 (pgi N.ng.nt) (pv 1))))))),?_⟩
  k_caughtN0;refine ⟨_,hS,_,TxL.at_ hb,?_⟩
  have dr:bs.drop p=b::bs.drop (p+1):=by
   obtain ⟨hk2,e⟩:=List.getElem?_eq_some_iff.mp hb;rw[List.drop_eq_getElem_cons hk2,e]
  have hp:p<=bs.length:=Nat.le_of_lt (List.getElem?_eq_some_iff.mp hb).1;have hh:(bs.drop (p+1)).head?=bs[p+1]?:=List.head?_drop;have q0:=q;rw[dr] at q;unfold token at q;dsimp only at q;refine ⟨λσ' H'=>σ'=[some (.ref a),some (.int p),some (.int b.toNat)]/\H'=H/\isLetter b=false,?_,?_⟩
  ·k_caughtN0;refine ⟨b,rfl,_,rfl,?_⟩
   cases hl:isLetter b with
   | true=>
    rw[if_pos rfl];refine ⟨a,bs,p,rfl,hS,hp,?_⟩;rw[if_pos hl] at q;rw[dr]
    by_cases h16:NAME<((b::bs.drop (p+1)).takeWhile λc=>isLetter c||isDigit c).length
    ·rw[if_pos h16] at q;rw[if_pos (show 16<((b::bs.drop (p+1)).takeWhile kP).length from h16)];exact q
    ·rw[if_neg h16] at q;rw[if_neg (show ¬ 16<((b::bs.drop (p+1)).takeWhile kP).length from h16)];exact q
   | false=>
    rw[if_neg Bool.false_ne_true];exact ⟨rfl,rfl⟩
  ·rintro σ1 H1 ⟨rfl,rfl,hl⟩;rw[if_neg (by rw[hl];exact Bool.false_ne_true)] at q;refine ⟨λσ' H'=>σ'=[some (.ref a),some (.int p),some (.int b.toNat)]/\H'=H1/\¬ (b=45/\bs[p+1]?=some 62),?_,?_⟩
   ·k_caughtN0;refine ⟨a,bs,p,b,rfl,hS,hb,_,rfl,?_⟩
    by_cases ha:b=45/\bs[p+1]?=some 62
    ·rw[if_pos (by rw[ha.1,ha.2];decide)];obtain ⟨rfl,h62⟩:=ha;rw[if_neg (by decide),if_pos (by decide),if_pos (by rw[hh];exact h62)] at q;exact jC q
    ·rw[if_neg (by rw[Bool.and_eq_true,beq_iff_eq,decide_eq_true_eq];exact ha)];exact ⟨rfl,ha⟩
   ·rintro σ2 H2 ⟨rfl,rfl,ha⟩;refine ⟨λσ' H'=>σ'=[some (.ref a),some (.int p),some (.int b.toNat)]/\H'=H2/\isDigit b=false/\b≠45,?_,?_⟩
    ·k_caughtN0;refine ⟨b,rfl,_,rfl,?_⟩
     have num:isDigit b=true∨b=45->HQ K C CT [V.ref a,V.int p] H2 Q E:=λhc=>by
      refine ⟨a,bs,p,b,rfl,hS,hb,?_⟩
      by_cases h45:b=45
      ·subst h45;rw[if_neg (by decide),if_pos (by decide),if_neg (by rw[hh];exact λz=>ha ⟨rfl,z⟩)] at q;rw[show ((45:UInt8)==45)=true from rfl,if_pos rfl]
       cases e:numberOf true ((bs.drop (p+1)).takeWhile isDigit) with
       | none=>rw[e] at q;exact q
       | some n=>
        rw[e] at q;intro t H' to kp;exact q t H' (by rw[show p+(((bs.drop (p+1)).takeWhile isDigit).length+1)=p+1+((bs.drop (p+1)).takeWhile isDigit).length by lia];exact to) kp
      ·have hd:=hc.resolve_right h45;rw[if_pos hd] at q;rw[show (b==45)=false from beq_eq_false_iff_ne.mpr h45,if_neg Bool.false_ne_true,dr]
       cases e:numberOf false ((b::bs.drop (p+1)).takeWhile isDigit) with
       | none=>rw[e] at q;exact q
       | some n=>rw[e] at q;exact q
     cases hd:isDigit b with
     | true=>
      rw[if_pos rfl,if_pos trivial];exact num (.inl hd)
     | false=>
      rw[if_neg Bool.false_ne_true]
      by_cases h45:b=45
      ·rw[if_pos (decide_eq_true (b45.mpr h45))];exact num (.inr h45)
      ·rw[if_neg (by simpa using λz=>h45 (b45.mp z))];exact ⟨rfl,rfl,h45⟩
    ·rintro σ3 H3 ⟨rfl,rfl,hd,h45⟩;rw[if_neg (by rw[hd];exact Bool.false_ne_true),if_neg (by simpa using h45)] at q;refine ⟨λσ' H'=>σ'=[some (.ref a),some (.int p),some (.int b.toNat)]/\H'=H3/\SIGNS.contains b=false,?_,?_⟩
     ·k_caughtN0;refine ⟨Sum.inl b.toNat,rfl,?_⟩;rw[C2]
      cases hs:SIGNS.contains b with
      | true=>
       rw[if_pos hs] at q;rw[if_pos rfl];rw[if_pos (show (some (V.str ⟨#[b.toNat]⟩)).isSome=true from rfl)];refine ⟨Sum.inl b.toNat,_,rfl,rfl,by rw[C2,if_pos hs],?_⟩
       exact jC λt H' to kp=>q t H' (by
        show DA CT H' t 3 (.str (if b.toNat=1 then "->" else ⟨#[b.toNat]⟩)) p (p+1:Nat);rw[if_neg (JU hs)]
        exact to) kp
      | false=>
       rw[if_neg Bool.false_ne_true];rw[if_neg (show ¬ (none:Option V).isSome=true by decide)]
       try exact ⟨rfl,rfl⟩
     ·rintro σ4 H4 ⟨rfl,rfl,hs⟩;rw[if_neg (by rw[hs];exact Bool.false_ne_true)] at q;k_caughtN0;exact q
def dC (CT:Addr)(H:Hp)(a:Addr)(t:PTok):Prop:=∃ bh,DA CT H a (fO t.tok) (WP t.tok) t.place bh
def KL (CT:Addr)(H:Hp)(l:Addr)(ts:Toks):Prop:=∃ as:List Addr,H l=some (.lst (as.map V.ref))/\Paired (dC CT H) as ts
theorem dC.keep {CT a l:Addr}{H:Hp}{t:PTok}{xs ys:List V}(h:dC CT H a t)(hl:H l=some (.lst xs)):dC CT (upd H l (.lst ys)) a t:=by
 obtain ⟨bh,dx,e⟩:=h;exact ⟨bh,dx,by rw[aB (bI e hl (by intro q;cases q))];exact e⟩
theorem dC.keeps {CT a:Addr}{H H':Hp}{t:PTok}(h:dC CT H a t)(k:aH [] H H'):dC CT H' a t:=by
 obtain ⟨bh,dx,e⟩:=h;exact ⟨bh,dx,k _ _ e (by simp)⟩
def CQ (CT a l:Addr)(bs:Bytes)(H1:Hp)(k:Nat)(σ:L2.St)(H':Hp):Prop:=∃ (as:List Addr) (acc:Toks) (tk:Option V),σ=[some (.ref a),some (.ref l),some (.int k),tk]/\H' l=some (.lst (as.map V.ref))/\Paired (dC CT H') as acc/\aH [] H1 H'/\
 k<=bs.length/\as.length<=k/\kQ 0 bs=(kQ k (bs.drop k)).map (acc++·)/\∀ b r,bs.drop k=b::r->isBlank b=false/\(b==35)=false
theorem yH (acc:Toks)(t:PTok)(x:Except Fault Toks):(x.map λl=>t::l).map (acc++·)=x.map ((acc++[t])++·):=by
 cases x with
 | error e=>rfl
 | ok l=>show Except.ok (acc++t::l)=Except.ok (acc++[t]++l);rw[List.append_assoc];rfl
structure R8 (P:Program)(w:World)(K:PySem.W.Frag)(mg:Str->Option Value):Prop where
 tg:V7 P w K mg
 le:GI mg "LINE_END" 10
 rm:GI mg "REMARK" 35
 bl:GT K mg "BLANKS" [.int 32,.int 9,.int 10]
 mb:GI mg "MOST_BYTES" 4096
 tb:GI mg "TOO_MANY_BYTES" 1
 en:GI mg "END" 4
inductive rQ (K:PySem.W.Frag) (C CT:Addr) (vs:List V) (H:Hp) (Q:VK) (E:XK):Prop
 | mk:∀ (a:Addr) (bs:List UInt8),vs=[.ref a]->TxL K H a bs->bs.length<=8192->(match tokens bs with
  | .error f=>Flt C E [] H f.code f.place
  | .ok ts=>∀ (l:Addr) (H':Hp),KL CT H' l ts->H l=none->aH [] H H'->Q (.ref l) H')->rQ K C CT vs H Q E
theorem v2:aO ["text","tokens","place","token"] ["text"] (aI eQ):=by walk_at "s"
theorem PU {f fTA fBB fBR C fC CT fT fL fD fBD fW fN fA:Addr}{fd dTA dBB dBR cd td dL dD dBD dW dN dA:FuncData}(N:R8 P w K mg)(F:Def K mg "tokens_of" eQ ["text"] f fd)(W:RA K mg fL fD fBD fW fN fA dL dD dBD dW dN dA)
  (A1:Def K mg "token_at" lO ["text","place"] fTA dTA) (B1:Def K mg "behind_blanks" eD ["text","place"] fBB dBB) (B2:Def K mg "behind_remark" dI ["text","place"] fBR dBR)
  (T:gE K mg C fC cd) (TK:fJ K mg CT fT td):aN P w K mg base (CXF P w C) 5 f fd ["text"] (rQ K C CT):=by
 have GA:aN P w K mg base (CXF P w C) 4 fTA dTA ["text","place"] (zW K C CT):=MA N.tg A1 W T TK;have GB:aN P w K mg base CX0 2 fBB dBB ["text","place"] (NJ K):=SY N.tg.ng.len N.le N.rm N.bl B1 B2;have GT:aN P w K mg base CX0 1 fT td ["self","kind","said","place","behind"] (kF CT):=pH TK;have len:=N.tg.ng.len;refine F.fn.okX v2 (λvs H Q E h=>?_) (λcdv A outer s H vs Q E hr h=>?_)
 ·walk_at "l"
 ·obtain ⟨a,bs,rfl,hS,h8,q⟩:=h;have hr2:cI 2 _:=hr.mono (by decide)
  refine ⟨_,aM (bC (aT sH (b9 aU (by rfl) len PySem.boot_len (a9 (pv 0) aC)) (pgi N.mb) (aY _)) (aE (cK (k:=0) T rfl dB hr2 (pgi N.tb) (pgi N.mb))) aV)
   (aG (aQ (i:=1) v2.nd rfl (Or.inl rfl) (bD aC))
   (aG (aQ (i:=2) v2.nd rfl (Or.inl rfl) (aS GB hr2 (by rfl) B1.at_ B1.fn.kp B1.bd .nil aR (a9 (pv 0) (a9 aF aC))))
   (aM (eC ML (aT eZ (pv 2) (b9 aU (by rfl) len PySem.boot_len (a9 (pv 0) aC)) (aY _))
    (aG (aQ (i:=3) v2.nd rfl (Or.inl rfl) (aS GA hr (by rfl) A1.at_ A1.fn.kp A1.bd .nil cO (a9 (pv 0) (a9 (pv 2) aC))))
    (aG (bE (iB PySem.F.plainAttrs_list PySem.F.slot_list_append PySem.F.type_list_append dG (pv 1) (a9 (pv 3) aC)))
    (aE (aQ (i:=2) v2.nd rfl (Or.inl rfl) (aS GB hr2 (by rfl) B1.at_ B1.fn.kp B1.bd .nil aR (a9 (pv 0) (a9 (aJ (pv 3) rfl) aC))))))))
   (aG (bE (iB PySem.F.plainAttrs_list PySem.F.slot_list_append PySem.F.type_list_append dG (pv 1) (a9 (cD TK.mak GT hr2 (by rfl) TK.at_ TK.bd .nil aR (a9 (pgi N.en) (a9 dU (a9 (b9 aU (by rfl) len PySem.boot_len (a9 (pv 0) aC)) (a9 (b9 aU (by rfl) len PySem.boot_len (a9 (pv 0) aC)) aC))))) aC)))
   (aE (aP (pv 1))))))),?_⟩
  rw[CF] at q;refine ⟨λσ' H'=>σ'=[some (.ref a),none,none,none]/\H'=H/\¬ TEXT<bs.length,?_,?_⟩
  ·k_caughtN0;refine ⟨_,.inl hS,?_⟩;rw[List.length_map]
   by_cases h4:TEXT<bs.length
   ·have h4':4096<bs.length:=h4;rw[if_pos (decide_eq_true (by lia))];rw[if_pos h4] at q;exact q
   ·have h4':¬ 4096<bs.length:=h4;rw[if_neg (by simp only[decide_eq_true_eq];lia)];exact h4
  ·rintro σ1 H1 ⟨rfl,rfl,h4⟩;rw[if_neg h4] at q;k_caughtN0;refine ⟨Nat.zero_le _,λl nl=>⟨a,bs,0,rfl,(aH.laid (S:=[]) nl).seq (by simp) hS,Nat.zero_le _,?_⟩⟩;have b0:=jK _ bs (Nat.le_refl _);refine ⟨λσ' H'=>∃ k,CQ CT a l bs H1 k σ' H'/\¬ k<bs.length,?_,?_⟩
   ·refine ⟨λm σ' H'=>∃ k,CQ CT a l bs H1 k σ' H'/\m=bs.length-k,⟨_,0+bS (bs.drop 0),⟨[],[],none,rfl,aA,.nil,aH.laid nl,?_,Nat.zero_le _,?_,?_⟩,rfl⟩,?_⟩
    ·rw[Nat.zero_add];exact b0.1
    ·rw[Nat.zero_add,List.drop_zero,(b0.2 0).1,Nat.zero_add];cases kQ (bS bs) (bs.drop (bS bs))<;>rfl
    ·rw[Nat.zero_add,List.drop_zero];exact (b0.2 0).2
    ·rintro m σ' H' ⟨k,⟨as,acc,tk,rfl,hL,hP,hK,hk,hak,hlex,hnb⟩,rfl⟩;have hS':TxL K H' a bs:=hK.seq (by simp) hS;k_caughtN0;refine ⟨_,.inl hS',?_⟩;rw[List.length_map]
     by_cases hlt:k<bs.length
     ·rw[if_pos (decide_eq_true (by lia))]
      obtain ⟨b,hb⟩:∃ b,bs[k]?=some b:=⟨_,List.getElem?_eq_getElem hlt⟩
      have dr:bs.drop k=b::bs.drop (k+1):=by
       obtain ⟨hk2,e⟩:=List.getElem?_eq_some_iff.mp hb;rw[List.drop_eq_getElem_cons hk2,e]
      obtain ⟨nb1,nb2⟩:=hnb _ _ dr;refine ⟨λσ2 H2=>∃ m',m'<bs.length-k/\∃ k,CQ CT a l bs H1 k σ2 H2/\m'=bs.length-k,λ_ _ z=>z,a,bs,k,b,rfl,hS',hb,?_⟩
      cases ht:token (bs.drop k) with
      | none=>
       rw[hlex,dr,LO nb1 nb2 (by rw[← dr];exact ht)] at q;exact Flt.keep q hK
      | some x=>
       obtain ⟨t,n⟩:=x;intro t1 H2 hto kp;obtain ⟨n1,n2⟩:=rT ht;rw[List.length_drop] at n2;have hL2:H2 l=some (.lst (as.map V.ref)):=kp _ _ hL (by simp);obtain ⟨dx,hto'⟩:=id hto;have ntl:t1≠l:=bI hto' hL2 (by intro z;cases z);have hz:as.length<sizeLine:=by rw[sizeLine_eq];lia
       have hP2:Paired (dC CT H2) as acc:=Paired.mapP hP λ_ _ z=>z.keeps kp;have hP3:Paired (dC CT (upd H2 l (.lst (as.map V.ref++[V.ref t1])))) (as++[t1]) (acc++[⟨k,t⟩]):=Paired.snoc (Paired.mapP hP2 λ_ _ z=>z.keep hL2) ⟨_,dx,by rw[aB ntl];exact hto'⟩
       have hK3:aH [] H1 (upd H2 l (.lst (as.map V.ref++[V.ref t1]))):=λb o z _=>by
        rw[aB (aD z nl)];exact (hK.trans kp) b o z (by simp)
       have bl:=jK _ (bs.drop (k+n)) (Nat.le_refl _);rw[List.length_drop] at bl;refine ⟨.inl ⟨rfl,_,SqL.of hL2⟩,as.map V.ref,hL2,by rw[List.length_map];exact hz,?_⟩;refine ⟨_,rfl,t1,CT,dx,_,_,rfl,by rw[aB ntl];exact hto',TK.cl,TK.nB,K2 _ _ _ _,?_⟩;refine ⟨a,bs,k+n,rfl,hK3.seq (by simp) hS,by lia,_,?_,k+n+bS (bs.drop (k+n)),⟨as++[t1],acc++[⟨k,t⟩],some (.ref t1),rfl,?_,hP3,hK3,by lia,?_,?_,?_⟩,rfl⟩
       ·lia
       ·rw[aA,List.map_append];rfl
       ·rw[List.length_append,List.length_singleton];lia
       ·rw[hlex,dr,LQ nb1 nb2 (by rw[← dr];exact ht),yH,← dr,List.drop_drop,(bl.2 (k+n)).1,List.drop_drop]
       ·have:=(bl.2 0).2
        rw[List.drop_drop] at this;exact this
     ·rw[if_neg (by simp only[decide_eq_true_eq];lia)];exact ⟨k,⟨as,acc,tk,rfl,hL,hP,hK,hk,hak,hlex,hnb⟩,hlt⟩
   ·rintro σ2 H2 ⟨k,⟨as,acc,tk,rfl,hL,hP,hK,hk,hak,hlex,hnb⟩,hlt⟩;have ek:k=bs.length:=by lia
    subst ek;have hS':TxL K H2 a bs:=hK.seq (by simp) hS;rw[hlex,List.drop_length,LP] at q;k_caughtN0;refine ⟨.inl ⟨rfl,_,SqL.of hL⟩,_,.inl hS',_,.inl hS',?_⟩;rw[List.length_map];refine jC (Q:=λv H3=>∃ xs,H3 l=some (.lst xs)/\xs.length<sizeLine/\Q (.ref l) (upd H3 l (.lst (xs++[v])))) λt1 H3 hto kp=>?_;obtain ⟨dx,hto'⟩:=id hto;have hL2:H3 l=some (.lst (as.map V.ref)):=kp _ _ hL (by simp);have ntl:t1≠l:=bI hto' hL2 (by intro z;cases z);refine ⟨_,hL2,by rw[List.length_map,sizeLine_eq];lia,q l _ ⟨as++[t1],by rw[aA,List.map_append];rfl,Paired.snoc (Paired.mapP (Paired.mapP hP λ_ _ z=>z.keeps kp) λ_ _ z=>z.keep hL2) ⟨_,dx,by rw[aB ntl];exact hto'⟩⟩ nl λb o z _=>?_⟩;rw[aB (aD z nl)];exact (hK.trans kp) b o z (by simp)
abbrev sRd (j:Nat):Stmt:=eW (top 57) j
def rdF (l:Addr)(i:Int):List (Str×V):=[("tokens",.ref l),("at",.int i)]
theorem JJ (l:Addr)(i:Int):(rdF l i).lookup ("tokens" : Str)=some (.ref l):=rfl
theorem RQ (l:Addr)(i:Int):(rdF l i).lookup ("at" : Str)=some (.int i):=by with_unfolding_all rfl
theorem TR (l:Addr)(i j:Int):iY "at" (.int j) (rdF l i)=rdF l j:=by with_unfolding_all rfl
structure c7 (CR CT:Addr)(H:Hp)(r l:Addr)(ts:Toks)(i:Nat):Prop where
 rd:∃ dx,H r=some (.ins CR dx (rdF l i))
 tk:KL CT H l ts
theorem Flt.to {C:Addr}{E:XK}{S:List Addr}{H H1:Hp}{c p:Int}(h:Flt C E S H c p)(k:aH S H H1):Flt C E [] H1 c p:=λe od H' f k'=>h e od H' f (k.trans (k'.mono (by simp)))
theorem bM {α β:Type}{F:α->β->Prop}:∀ {xs:List α} {ys:List β} {i:Nat} {y:β},Paired F xs ys->ys[i]?=some y->∃ x,xs[i]?=some x/\F x y
 | _,_,_,_,.nil,e=>by simp at e
 | _,_,0,_,.cons r _,e=>by simp at e;subst e;exact ⟨_,rfl,r⟩
 | _,_,i+1,_,.cons _ t,e=>by
  obtain ⟨x,h1,h2⟩:=bM (i:=i) t (by simpa using e);exact ⟨x,by simpa using h1,h2⟩
structure sC (K:PySem.W.Frag)(mg:Str->Option Value)(CR:Addr):Prop where
 cl:Cls K CR
 nT:aZ K CR "tokens"
 nA:aZ K CR "at"
 at_:mg "Reader" = some (.ref CR)
 token:∃ f fd,bN K CR "token" "Reader.token" (sRd 1) ["self"] f fd
 isEnd:∃ f fd,bN K CR "is_at_end" "Reader.is_at_end" (sRd 2) ["self"] f fd
 isSign:∃ f fd,bN K CR "is_at_sign" "Reader.is_at_sign" (sRd 3) ["self","sign"] f fd
 refuse:∃ f fd,bN K CR "refuse" "Reader.refuse" (sRd 4) ["self"] f fd
 step:∃ f fd,bN K CR "step" "Reader.step" (sRd 5) ["self"] f fd
 tKind:∃ f fd,bN K CR "take_kind" "Reader.take_kind" (sRd 6) ["self","kind"] f fd
 tSign:∃ f fd,bN K CR "take_sign" "Reader.take_sign" (sRd 7) ["self","sign"] f fd
 tName:∃ f fd,bN K CR "take_name" "Reader.take_name" (sRd 8) ["self"] f fd
inductive kE (CR CT:Addr) (vs:List V) (H:Hp) (Q:VK) (E:XK):Prop
 | mk:∀ (r l:Addr) (ts:Toks) (i:Nat) (t:PTok),vs=[.ref r]->c7 CR CT H r l ts i->ts[i]?=some t->(∀ a,dC CT H a t->Q (.ref a) H)->kE CR CT vs H Q E
theorem U7:aO ["self"] ["self"] (aI (sRd 1)):=by walk_at "s"
theorem jT {CR CT f:Addr}{fd:FuncData}(R:sC K mg CR)(F:bN K CR "token" "Reader.token" (sRd 1) ["self"] f fd):aN P w K mg base CX0 1 f fd ["self"] (kE CR CT):=by
 refine F.fn.ok U7 (λvs H Q E h=>?_) (λcdv A outer s H vs Q E hr h=>?_)
 ·walk_at "l"
 ·obtain ⟨r,l,ts,i,t,rfl,⟨⟨dx,hr1⟩,as,hl,hp⟩,ht,q⟩:=h;obtain ⟨a,ha,hit⟩:=bM hp ht;refine ⟨_,aE (aP (aK aL (aJ (pv 0) rfl) (aJ (pv 0) rfl) (λ_ _=>rfl))),?_⟩;refine ⟨_,rfl,r,CR,dx,_,_,rfl,hr1,R.cl,R.nT,JJ _ _,_,rfl,r,CR,dx,_,_,rfl,hr1,R.cl,R.nA,RQ _ _,l,_,_,_,rfl,rfl,SqL.of hl,aX (by rw[List.getElem?_map,ha];rfl),q a hit⟩
inductive ES (CR CT:Addr) (vs:List V) (H:Hp) (Q:VK) (E:XK):Prop
 | mk:∀ (r l:Addr) (ts:Toks) (i:Nat) (t:PTok),vs=[.ref r]->c7 CR CT H r l ts i->ts[i]?=some t->Q (.bl (decide (t.tok=.halt_))) H->ES CR CT vs H Q E
theorem U5:aO ["self"] ["self"] (aI (sRd 2)):=by walk_at "s"
theorem wT (t:VaprbBase.Tok):decide (fO t=4)=decide (t=.halt_):=by
 cases t<;>simp[fO]
theorem fB {l:Addr}{i:Int}:(rdF l i).lookup ("token" : Str)=none/\(rdF l i).lookup ("is_at_sign" : Str)=none/\(rdF l i).lookup ("refuse" : Str)=none/\(rdF l i).lookup ("step" : Str)=none/\(rdF l i).lookup ("is_at_end" : Str)=none/\(rdF l i).lookup ("take_kind" : Str)=none/\(rdF l i).lookup ("take_sign" : Str)=none/\(rdF l i).lookup ("take_name" : Str)=none:=by
 refine ⟨?_,?_,?_,?_,?_,?_,?_,?_⟩<;>with_unfolding_all rfl
theorem PP {CR CT f fT:Addr}{fd td:FuncData}(en:GI mg "END" 4)(R:sC K mg CR)(TK:fJ K mg CT fT td)(F:bN K CR "is_at_end" "Reader.is_at_end" (sRd 2) ["self"] f fd):aN P w K mg base CX0 2 f fd ["self"] (ES CR CT):=by
 obtain ⟨g,gd,G⟩:=R.token;have GT:aN P w K mg base CX0 1 g gd ["self"] (kE CR CT):=jT R G;refine F.fn.ok U5 (λvs H Q E h=>?_) (λcdv A outer s H vs Q E hr h=>?_)
 ·walk_at "l"
 ·obtain ⟨r,l,ts,i,t,rfl,hR,ht,q⟩:=h;obtain ⟨dx,hr1⟩:=hR.rd;refine ⟨_,aE (aP (gU bV (aJ (c6 (pv 0) R.cl G.me GT hr G.bd .nil aR) rfl) (pgi en) (aY _))),?_⟩;refine ⟨_,rfl,r,dx,_,rfl,hr1,fB.1,r,l,ts,i,t,rfl,hR,ht,λa ⟨bh,da,e⟩=>⟨a,CT,da,_,_,rfl,e,TK.cl,TK.nK,t7 _ _ _ _,rfl,?_⟩⟩;rw[cV,wT];exact q
inductive qB (CR CT:Addr) (vs:List V) (H:Hp) (Q:VK) (E:XK):Prop
 | mk:∀ (r l:Addr) (ts:Toks) (i:Nat) (t:PTok) (c:Nat),c≠1->vs=[.ref r,.str ⟨#[c]⟩]->c7 CR CT H r l ts i->ts[i]?=some t->Q (.bl (decide (t.tok=.sign c))) H->qB CR CT vs H Q E
theorem QK:aO ["self","sign"] ["self","sign"] (aI (sRd 3)):=by walk_at "s"
theorem JN {c d:Nat}(hc:c≠1):((if d=1 then ("->" : Str) else ⟨#[d]⟩)=(⟨#[c]⟩:Str))↔d=c:=by
 by_cases h:d=1
 ·rw[if_pos h];constructor
  ·intro z;have z1:("->" : Str).cps.size=1:=congrArg (λs:Str=>s.cps.size) z;exact absurd z1 (by decide +kernel)
  ·intro z;exact absurd (z.symm.trans h) hc
 ·rw[if_neg h];constructor
  ·intro z
   have:=congrArg (λs:Str=>s.cps.toList) z
   simpa using this
  ·intro z;rw[z]
theorem uK {CR CT f fT:Addr}{fd td:FuncData}(sg:GI mg "SIGN" 3)(R:sC K mg CR)(TK:fJ K mg CT fT td)(F:bN K CR "is_at_sign" "Reader.is_at_sign" (sRd 3) ["self","sign"] f fd):aN P w K mg base CX0 2 f fd ["self","sign"] (qB CR CT):=by
 obtain ⟨g,gd,G⟩:=R.token;have GT:aN P w K mg base CX0 1 g gd ["self"] (kE CR CT):=jT R G;refine F.fn.ok QK (λvs H Q E h=>?_) (λcdv A outer s H vs Q E hr h=>?_)
 ·walk_at "l"
 ·obtain ⟨r,l,ts,i,t,c,hc,rfl,hR,ht,q⟩:=h;obtain ⟨dx,hr1⟩:=hR.rd;refine ⟨_,aE (aP (yO (gU bV (aJ (c6 (pv 0) R.cl G.me GT hr G.bd .nil aR) rfl) (pgi sg) (aY _)) (yQ (gU bV (aJ (c6 (pv 0) R.cl G.me GT hr G.bd .nil aR) rfl) (pv 1) (aY _))))),?_⟩;refine ⟨_,rfl,r,dx,_,rfl,hr1,fB.1,r,l,ts,i,t,rfl,hR,ht,λa ⟨bh,da,e⟩=>⟨a,CT,da,_,_,rfl,e,TK.cl,TK.nK,t7 _ _ _ _,rfl,_,rfl,?_⟩⟩;rw[cV];obtain ⟨pl,tt⟩:=t
  cases tt with
  | sign d=>
   rw[if_pos (by simp[fO])];refine ⟨_,rfl,r,dx,_,rfl,hr1,fB.1,r,l,ts,i,_,rfl,hR,ht,λa2 ⟨bh2,da2,e2⟩=>⟨a2,CT,da2,_,_,rfl,e2,TK.cl,TK.nS,cT _ _ _ _,_,rfl,rfl,?_⟩⟩;show Q (.bl (decide (V.str _=V.str _))) H;rw[qR,show decide ((if d=1 then ("->" : Str) else ⟨#[d]⟩)=(⟨#[c]⟩:Str))=decide (VaprbBase.Tok.sign d=.sign c) from decide_eq_decide.mpr ((JN hc).trans ⟨λz=>by rw[z],λz=>by injection z⟩)];exact q
  | name b=>
   rw[if_neg (by simp[fO])];exact q
  | num b=>
   rw[if_neg (by simp[fO])];exact q
  | halt_=>
   rw[if_neg (by simp[fO])];exact q
inductive vE (C CR CT:Addr) (vs:List V) (H:Hp) (E0:VK) (E:XK):Prop
 | mk:∀ (r l:Addr) (ts:Toks) (i:Nat) (t:PTok),vs=[.ref r]->c7 CR CT H r l ts i->ts[i]?=some t->Flt C E [] H 3 t.place->vE C CR CT vs H E0 E
theorem U6:aO ["self"] ["self"] (aI (sRd 4)):=by walk_at "s"
theorem yM {C fC CR CT f fT:Addr}{fd td cd:FuncData}(na:GI mg "NOT_ALLOWED" 3)(R:sC K mg CR)(TK:fJ K mg CT fT td)(T:gE K mg C fC cd)(F:bN K CR "refuse" "Reader.refuse" (sRd 4) ["self"] f fd):aN P w K mg base (CXF P w C) 3 f fd ["self"] (vE C CR CT):=by
 obtain ⟨g,gd,G⟩:=R.token;have GT:aN P w K mg base CX0 1 g gd ["self"] (kE CR CT):=jT R G;refine F.fn.okX U6 (λvs H Q E h=>?_) (λcdv A outer s H vs Q E hr h=>?_)
 ·walk_at "l"
 ·obtain ⟨r,l,ts,i,t,rfl,hR,ht,q⟩:=h;obtain ⟨dx,hr1⟩:=hR.rd;refine ⟨_,aE (cK (k:=0) T rfl dB hr (pgi na) (aJ (c6 (pv 0) R.cl G.me GT (hr.mono (by decide)) G.bd .nil aR) rfl)),?_⟩;exact ⟨_,rfl,r,dx,_,rfl,hr1,fB.1,r,l,ts,i,t,rfl,hR,ht,λa ⟨bh,da,e⟩=>⟨a,CT,da,_,_,rfl,e,TK.cl,TK.nP,eE _ _ _ _,_,_,rfl,rfl,q⟩⟩
inductive qC (CR CT:Addr) (vs:List V) (H:Hp) (Q:VK) (E:XK):Prop
 | mk:∀ (r l:Addr) (ts:Toks) (i:Nat) (t:PTok),vs=[.ref r]->c7 CR CT H r l ts i->ts[i]?=some t->(∀ (a:Addr) (H':Hp),dC CT H' a t->c7 CR CT H' r l ts (i+1)->aH [r] H H'->Q (.ref a) H')->qC CR CT vs H Q E
theorem HE:aO ["self","token"] ["self"] (aI (sRd 5)):=by walk_at "s"
theorem m8 {CR CT r a dx:Addr}{H:Hp}{t:PTok}{fs fs':List (Str×V)}(h:dC CT H a t)(hr:H r=some (.ins CR dx fs))(nc:CR≠CT):dC CT (upd H r (.ins CR dx fs')) a t:=by
 obtain ⟨bh,da,e⟩:=h;exact ⟨bh,da,by rw[aB (bI e hr (by intro q;injection q with q;exact nc q.symm))];exact e⟩
theorem uL {CR CT f fT:Addr}{fd td:FuncData}(nc:CR≠CT)(R:sC K mg CR)(TK:fJ K mg CT fT td)(F:bN K CR "step" "Reader.step" (sRd 5) ["self"] f fd):aN P w K mg base CX0 2 f fd ["self"] (qC CR CT):=by
 obtain ⟨g,gd,G⟩:=R.token;have GT:aN P w K mg base CX0 1 g gd ["self"] (kE CR CT):=jT R G;refine F.fn.ok HE (λvs H Q E h=>?_) (λcdv A outer s H vs Q E hr h=>?_)
 ·walk_at "l"
 ·obtain ⟨r,l,ts,i,t,rfl,hR,ht,q⟩:=h;obtain ⟨⟨dx,hr1⟩,as,hl,hp⟩:=id hR;refine ⟨_,aG (aQ (i:=1) HE.nd rfl (Or.inl rfl) (c6 (pv 0) R.cl G.me GT hr G.bd .nil aR)) (aG (JI (pv 0) aF SL) (aE (aP (pv 1)))),?_⟩;refine ⟨_,rfl,r,dx,_,rfl,hr1,fB.1,r,l,ts,i,t,rfl,hR,ht,λa ha=>⟨_,rfl,r,CR,dx,_,_,rfl,hr1,R.cl,R.nA,RQ _ _,_,_,rfl,rfl,dx,_,hr1,by show 2<1000;decide,_,rfl,?_⟩⟩;rw[TR];have hl':(upd H r (.ins CR dx (rdF l ((i:Int)+1)))) l=some (.lst (as.map V.ref)):=by rw[aB (bI hl hr1 (by intro z;cases z))];exact hl
  exact q a _ (m8 ha hr1 nc) ⟨⟨dx,by rw[aA,Int.natCast_add];rfl⟩,as,hl',Paired.mapP hp λ_ _ z=>m8 z hr1 nc⟩ λb o z nb=>by rw[aB (by simpa using nb)];exact z
theorem lV {a b:Bytes}(h:cB a=cB b):a=b:=by
 have e:a.map (·.toNat)=b.map (·.toNat):=by
  have:=congrArg (λs:Str=>s.cps.toList) h
  simpa [cB] using this
 exact (List.map_inj_right (λx y z=>UInt8.toNat_inj.mp z)).mp e
def E7:List V:=RESERVED.map λr=>V.str (cB r)
theorem SN (b:Bytes):inV (.str (cB b)) E7=RESERVED.contains b:=by
 unfold inV E7;rw[List.any_map,List.contains_eq_any_beq];congr 1;funext r
 show (cB r==cB b)=(b==r)
 rw[Bool.eq_iff_iff,beq_iff_eq,beq_iff_eq];exact ⟨λz=>(lV z).symm,λz=>by rw[z]⟩
theorem MX:E7.all kM=true:=by
 unfold E7;rw[List.all_map];exact List.all_eq_true.mpr λ_ _=>rfl
def u6 (t:VaprbBase.Tok):Bool:=match t with
 | .name b=>!RESERVED.contains b
 | _=>false
structure wB (K:PySem.W.Frag)(mg:Str->Option Value):Prop where
 wd:GI mg "WORD" 1
 nn:GT K mg "NOT_NAMES" E7
 fn:∃ f fd,Def K mg "is_name" pV ["token"] f fd
inductive vB (CT:Addr) (vs:List V) (H:Hp) (Q:VK) (E:XK):Prop
 | mk:∀ (a:Addr) (t:PTok),vs=[.ref a]->dC CT H a t->Q (.bl (u6 t.tok)) H->vB CT vs H Q E
theorem TZ:aO ["token"] ["token"] (aI pV):=by walk_at "s"
theorem yL {CT fT f:Addr}{fd td:FuncData}(N:wB K mg)(TK:fJ K mg CT fT td)(F:Def K mg "is_name" pV ["token"] f fd):aN P w K mg base CX0 1 f fd ["token"] (vB CT):=by
 obtain ⟨na,nm,ns⟩:=N.nn;refine F.fn.ok TZ (λvs H Q E h=>?_) (λcdv A outer s H vs Q E hr h=>?_)
 ·walk_at "l"
 ·obtain ⟨a,t,rfl,⟨bh,dx,e⟩,q⟩:=h;refine ⟨_,aE (aP (yO (gU bV (aJ (pv 0) rfl) (pgi N.wd) (aY _)) (yQ (gU yN (aJ (pv 0) rfl) (pgr nm) (by with_unfolding_all rfl))))),?_⟩;refine ⟨_,rfl,a,CT,dx,_,_,rfl,e,TK.cl,TK.nK,t7 _ _ _ _,rfl,_,rfl,?_⟩;rw[cV];obtain ⟨pl,tt⟩:=t
  cases tt with
  | name b=>
   rw[if_pos (by simp[fO])];refine ⟨_,rfl,a,CT,dx,_,_,rfl,e,TK.cl,TK.nS,cT _ _ _ _,na,_,rfl,.inr (GT.sq ns),rfl,MX,?_⟩;rw[if_pos rfl];show Q (.bl (!inV (.str (cB b)) E7)) H;rw[SN];exact q
  | sign b=>
   rw[if_neg (by simp[fO])];exact q
  | num b=>
   rw[if_neg (by simp[fO])];exact q
  | halt_=>
   rw[if_neg (by simp[fO])];exact q
structure oO (K:PySem.W.Frag)(mg:Str->Option Value)(C CR CT:Addr):Prop where
 na:GI mg "NOT_ALLOWED" 3
 sg:GI mg "SIGN" 3
 nc:CR≠CT
 R:sC K mg CR
 TK:∃ fT td,fJ K mg CT fT td
 T:∃ fC cd,gE K mg C fC cd
def dR (C CR CT:Addr)(ok:Bool)(H:Hp)(Q:VK)(E:XK)(r l:Addr)(ts:Toks)(i:Nat)(t:PTok):Prop:=
 if ok=true then ∀ (a:Addr) (H':Hp),dC CT H' a t->c7 CR CT H' r l ts (i+1)->aH [r] H H'->Q (.ref a) H' else Flt C E [] H 3 t.place
inductive mM (C CR CT:Addr) (vs:List V) (H:Hp) (Q:VK) (E:XK):Prop
 | mk:∀ (r l:Addr) (ts:Toks) (i:Nat) (t:PTok) (k:Int),vs=[.ref r,.int k]->c7 CR CT H r l ts i->ts[i]?=some t->dR C CR CT (decide (fO t.tok=k)) H Q E r l ts i t->mM C CR CT vs H Q E
theorem QL:aO ["self","kind"] ["self","kind"] (aI (sRd 6)):=by walk_at "s"
theorem pG {C CR CT f:Addr}{fd:FuncData}(N:oO K mg C CR CT)(F:bN K CR "take_kind" "Reader.take_kind" (sRd 6) ["self","kind"] f fd):aN P w K mg base (CXF P w C) 4 f fd ["self","kind"] (mM C CR CT):=by
 obtain ⟨g,gd,G⟩:=N.R.token;obtain ⟨g2,gd2,G2⟩:=N.R.refuse;obtain ⟨g3,gd3,G3⟩:=N.R.step;obtain ⟨fT,td,TK⟩:=N.TK;obtain ⟨fC,cd,T⟩:=N.T;have GT:aN P w K mg base CX0 1 g gd ["self"] (kE CR CT):=jT N.R G;have GR:aN P w K mg base (CXF P w C) 3 g2 gd2 ["self"] (vE C CR CT):=yM N.na N.R TK T G2;have GS:aN P w K mg base CX0 2 g3 gd3 ["self"] (qC CR CT):=uL N.nc N.R TK G3;refine F.fn.okX QL (λvs H Q E h=>?_) (λcdv A outer s H vs Q E hr h=>?_)
 ·walk_at "l"
 ·obtain ⟨r,l,ts,i,t,k,rfl,hR,ht,q⟩:=h;obtain ⟨dx,hr1⟩:=hR.rd
  refine ⟨_,aG (bC (aT GO (aJ (c6 (pv 0) N.R.cl G.me GT (hr.mono (by decide)) G.bd .nil aR) rfl) (pv 1) (aY _)) (aE (bE (c6 (pv 0) N.R.cl G2.me GR hr G2.bd .nil cO))) aV)
   (aE (aP (c6 (pv 0) N.R.cl G3.me GS (hr.mono (by decide)) G3.bd .nil aR))),?_⟩
  refine ⟨_,rfl,r,dx,_,rfl,hr1,fB.1,r,l,ts,i,t,rfl,hR,ht,λa ⟨bh,da,e⟩=>⟨a,CT,da,_,_,rfl,e,TK.cl,TK.nK,t7 _ _ _ _,_,rfl,rfl,_,rfl,?_⟩⟩
  show if (!decide (V.int (fO t.tok)=V.int k))=true then _ else _
  rw[cV];unfold dR at q
  by_cases hk:fO t.tok=k
  ·rw[if_pos (decide_eq_true hk)] at q;rw[if_neg (by simp[hk])];exact ⟨_,rfl,r,dx,_,rfl,hr1,fB.2.2.2.1,r,l,ts,i,t,rfl,hR,ht,q⟩
  ·rw[if_neg (by simp[hk])] at q;rw[if_pos (by simp[hk])];exact ⟨_,rfl,r,dx,_,rfl,hr1,fB.2.2.1,r,l,ts,i,t,rfl,hR,ht,q⟩
inductive mO (C CR CT:Addr) (vs:List V) (H:Hp) (Q:VK) (E:XK):Prop
 | mk:∀ (r l:Addr) (ts:Toks) (i:Nat) (t:PTok) (c:Nat),c≠1->vs=[.ref r,.str ⟨#[c]⟩]->c7 CR CT H r l ts i->ts[i]?=some t->dR C CR CT (decide (t.tok=.sign c)) H Q E r l ts i t->mO C CR CT vs H Q E
theorem QN:aO ["self","sign"] ["self","sign"] (aI (sRd 7)):=by walk_at "s"
theorem pI {C CR CT f:Addr}{fd:FuncData}(N:oO K mg C CR CT)(F:bN K CR "take_sign" "Reader.take_sign" (sRd 7) ["self","sign"] f fd):aN P w K mg base (CXF P w C) 4 f fd ["self","sign"] (mO C CR CT):=by
 obtain ⟨g,gd,G⟩:=N.R.isSign;obtain ⟨g2,gd2,G2⟩:=N.R.refuse;obtain ⟨g3,gd3,G3⟩:=N.R.step;obtain ⟨fT,td,TK⟩:=N.TK;obtain ⟨fC,cd,T⟩:=N.T;have GT:aN P w K mg base CX0 2 g gd ["self","sign"] (qB CR CT):=uK N.sg N.R TK G;have GR:aN P w K mg base (CXF P w C) 3 g2 gd2 ["self"] (vE C CR CT):=yM N.na N.R TK T G2;have GS:aN P w K mg base CX0 2 g3 gd3 ["self"] (qC CR CT):=uL N.nc N.R TK G3;refine F.fn.okX QN (λvs H Q E h=>?_) (λcdv A outer s H vs Q E hr h=>?_)
 ·walk_at "l"
 ·obtain ⟨r,l,ts,i,t,c,hc,rfl,hR,ht,q⟩:=h;obtain ⟨dx,hr1⟩:=hR.rd
  refine ⟨_,aG (bC (gJ (cE (bA (pv 0) N.R.cl G.me GT (hr.mono (by decide)) G.bd .nil aR (a9 (pv 1) aC)))) (aE (bE (c6 (pv 0) N.R.cl G2.me GR hr G2.bd .nil cO))) aV)
   (aE (aP (c6 (pv 0) N.R.cl G3.me GS (hr.mono (by decide)) G3.bd .nil aR))),?_⟩
  refine ⟨_,rfl,r,dx,_,rfl,hr1,fB.2.1,_,rfl,r,l,ts,i,t,c,hc,rfl,hR,ht,_,rfl,?_⟩;dsimp only;unfold dR at q
  by_cases hk:t.tok=.sign c
  ·rw[if_pos (decide_eq_true hk)] at q;rw[if_neg (by simp[hk])];exact ⟨_,rfl,r,dx,_,rfl,hr1,fB.2.2.2.1,r,l,ts,i,t,rfl,hR,ht,q⟩
  ·rw[if_neg (by simp[hk])] at q;rw[if_pos (by simp[hk])];exact ⟨_,rfl,r,dx,_,rfl,hr1,fB.2.2.1,r,l,ts,i,t,rfl,hR,ht,q⟩
inductive zV (C CR CT:Addr) (vs:List V) (H:Hp) (Q:VK) (E:XK):Prop
 | mk:∀ (r l:Addr) (ts:Toks) (i:Nat) (t:PTok),vs=[.ref r]->c7 CR CT H r l ts i->ts[i]?=some t->dR C CR CT (u6 t.tok) H Q E r l ts i t->zV C CR CT vs H Q E
theorem QM:aO ["self"] ["self"] (aI (sRd 8)):=by walk_at "s"
theorem M9 {C CR CT f:Addr}{fd:FuncData}(N:oO K mg C CR CT)(NG:wB K mg)(F:bN K CR "take_name" "Reader.take_name" (sRd 8) ["self"] f fd):aN P w K mg base (CXF P w C) 4 f fd ["self"] (zV C CR CT):=by
 obtain ⟨g0,gd0,G0⟩:=N.R.token;obtain ⟨g,gd,G⟩:=NG.fn;obtain ⟨g2,gd2,G2⟩:=N.R.refuse;obtain ⟨g3,gd3,G3⟩:=N.R.step;obtain ⟨fT,td,TK⟩:=N.TK;obtain ⟨fC,cd,T⟩:=N.T;have GK:aN P w K mg base CX0 1 g0 gd0 ["self"] (kE CR CT):=jT N.R G0;have GT:aN P w K mg base CX0 1 g gd ["token"] (vB CT):=yL NG TK G;have GR:aN P w K mg base (CXF P w C) 3 g2 gd2 ["self"] (vE C CR CT):=yM N.na N.R TK T G2;have GS:aN P w K mg base CX0 2 g3 gd3 ["self"] (qC CR CT):=uL N.nc N.R TK G3;refine F.fn.okX QM (λvs H Q E h=>?_) (λcdv A outer s H vs Q E hr h=>?_)
 ·walk_at "l"
 ·obtain ⟨r,l,ts,i,t,rfl,hR,ht,q⟩:=h;obtain ⟨dx,hr1⟩:=hR.rd
  refine ⟨_,aG (bC (gJ (cE (aS GT (hr.mono (by decide)) (by rfl) G.at_ G.fn.kp G.bd .nil aR (a9 (c6 (pv 0) N.R.cl G0.me GK (hr.mono (by decide)) G0.bd .nil aR) aC)))) (aE (bE (c6 (pv 0) N.R.cl G2.me GR hr G2.bd .nil cO))) aV)
   (aE (aP (c6 (pv 0) N.R.cl G3.me GS (hr.mono (by decide)) G3.bd .nil aR))),?_⟩
  refine ⟨_,rfl,r,dx,_,rfl,hr1,fB.1,r,l,ts,i,t,rfl,hR,ht,λa ha=>⟨a,t,rfl,ha,_,rfl,?_⟩⟩;unfold dR at q
  cases hk:u6 t.tok with
  | true=>
   rw[if_pos hk] at q;rw[if_neg (by simp)];exact ⟨_,rfl,r,dx,_,rfl,hr1,fB.2.2.2.1,r,l,ts,i,t,rfl,hR,ht,q⟩
  | false=>
   rw[if_neg (by simp[hk])] at q;rw[if_pos (by simp)];exact ⟨_,rfl,r,dx,_,rfl,hr1,fB.2.2.1,r,l,ts,i,t,rfl,hR,ht,q⟩
abbrev EC:Stmt:=top 74
abbrev JM:Stmt:=top 75
structure xT (K:PySem.W.Frag)(CR f:Addr)(fd:FuncData):Prop where
 mak:Mk K CR f
 fn:Fun K "__init__" "Reader.__init__" (sRd 0) f fd
 bd:cZ K fd ["self","text"] []
inductive t6 (K:PySem.W.Frag) (C CR CT:Addr) (vs:List V) (H:Hp) (Q:VK) (E:XK):Prop
 | mk:∀ (r a dx:Addr) (bs:List UInt8),vs=[.ref r,.ref a]->H r=some (.ins CR dx [])->TxL K H a bs->bs.length<=8192->(match tokens bs with
  | .error f=>Flt C E [] H f.code f.place
  | .ok ts=>∀ (l:Addr) (H':Hp),c7 CR CT H' r l ts 0->aH [r] H H'->Q .non H')->t6 K C CR CT vs H Q E
theorem QJ:aO ["self","text"] ["self","text"] (aI (sRd 0)):=by walk_at "s"
theorem BF {C CR CT f g:Addr}{fd gd:FuncData}(nc:CR≠CT)(R:sC K mg CR)(F:xT K CR f fd)(G:Def K mg "tokens_of" eQ ["text"] g gd)(GT:aN P w K mg base (CXF P w C) 5 g gd ["text"] (rQ K C CT)):
  aN P w K mg base (CXF P w C) 6 f fd ["self","text"] (t6 K C CR CT):=by
 refine F.fn.okX QJ (λvs H Q E h=>?_) (λcdv A outer s H vs Q E hr h=>?_)
 ·walk_at "l"
 ·obtain ⟨r,a,dx,bs,rfl,hr1,hS,h8,q⟩:=h;refine ⟨_,aG (bY (pv 0) (aS GT hr (by rfl) G.at_ G.fn.kp G.bd .nil cO (a9 (pv 1) aC)) rfl) (aE (bY (pv 0) aF rfl)),?_⟩;refine ⟨_,rfl,a,bs,rfl,hS,h8,?_⟩
  cases ht:tokens bs with
  | error f=>rw[ht] at q;exact q
  | ok ts=>
   rw[ht] at q;intro l H' hl nl kp;have hr2:H' r=some (.ins CR dx []):=kp _ _ hr1 (by simp);refine ⟨_,rfl,r,CR,dx,_,rfl,hr2,R.cl,R.nT,by show 0<1000;decide,_,rfl,r,CR,dx,_,rfl,aA,R.cl,R.nA,by show 1<1000;decide,?_⟩;obtain ⟨as,h1,h2⟩:=hl;have nlr:l≠r:=bI h1 hr2 (by intro z;cases z);refine q l _ ⟨⟨dx,aA.trans (by with_unfolding_all rfl)⟩,as,by rw[aB nlr,aB nlr];exact h1,Paired.mapP (Paired.mapP h2 λ_ _ z=>m8 z hr2 nc) λ_ _ z=>m8 z aA nc⟩ λb o z nb=>?_;have nb':b≠r:=by simpa using nb
   rw[aB nb',aB nb'];exact kp b o z (by simp)
inductive HP (vs:List V) (H:Hp) (Q:VK) (E:XK):Prop
 | mk:∀ a b:Nat,vs=[.int a,.int b]->Q (.int (Nat.gcd a b:Nat)) H->HP vs H Q E
theorem HD:aO ["a","b","rest"] ["a","b"] (aI EC):=by walk_at "s"
theorem OO:bootBuiltins "abs" = some (.builtin "abs"):=by first|rfl|decide +kernel|(unfold bootBuiltins;decide +kernel)
theorem M2 {f:Addr}{fd:FuncData}(ab:mg "abs" = none)(F:Def K mg "common_divisor" EC ["a","b"] f fd):aN P w K mg base CX0 1 f fd ["a","b"] HP:=by
 refine F.fn.ok HD (λvs H Q E h=>?_) (λcdv A outer s H vs Q E hr h=>?_)
 ·walk_at "l"
 ·obtain ⟨a,b,rfl,q⟩:=h
  refine ⟨_,aG (eC PassesOwn.never (aT GO (pv 1) aF (aY _)) (aG (aQ (i:=2) HD.nd rfl (Or.inl rfl) (b7 T9 (pv 0) (pv 1))) (aG (aQ (i:=0) HD.nd rfl (Or.inl rfl) (pv 1)) (aE (aQ (i:=1) HD.nd rfl (Or.inl rfl) (pv 2))))))
   (aE (aP (b9 KP (by rfl) ab OO (a9 (pv 0) aC)))),?_⟩
  show vI _ _ _ _ _;refine ⟨λm σ' H'=>∃ (x y:Nat) (z:Option V),σ'=[some (.int x),some (.int y),z]/\H'=H/\Nat.gcd x y=Nat.gcd a b/\m=y,⟨_,a,b,none,rfl,rfl,rfl,rfl⟩,?_⟩;rintro m σ' H' ⟨x,y,z,rfl,rfl,hg,rfl⟩;k_caughtN0
  by_cases hy:m=0
  ·rw[if_neg (by simp[hy])];rw[hy,Nat.gcd_zero_right] at hg;rw[if_neg (by lia),hg];exact q
  ·rw[if_pos (by simp;lia)];refine ⟨λσ2 H2=>∃ m',m'<m/\∃ (x y:Nat) (z:Option V),σ2=[some (.int x),some (.int y),z]/\H2=H'/\Nat.gcd x y=Nat.gcd a b/\m'=y,λ_ _ z=>z,?_⟩;refine ⟨by lia,x%m,Nat.mod_lt _ (by lia),m,x%m,_,by rw[← Int.natCast_emod],rfl,?_,rfl⟩;rw[← hg,Nat.gcd_comm x m,Nat.gcd_rec m x,Nat.gcd_comm]
theorem pK {X:Cx}:OpR X (binaryOp .FloorDiv) (rI (λ_ j=>0<j/\j.natAbs.log2<9000) λi j=>.int (i / j)):=opI λi j _ _ _ _ _ hc q=>by
 have h1:(0:Int)<j:=hc.1;exact floordiv_int (by lia) (by rw[Int.fdiv_eq_ediv_of_nonneg i (by lia)];exact q) (.inl (PyProof.noPylong_of_log2 hc.2))
inductive C4 (vs:List V) (H:Hp) (Q:VK) (E:XK):Prop
 | mk:∀ n d:Nat,vs=[.int n,.int d]->0<d->d.log2<9000->(∀ p,H p=none->Q (.ref p) (upd H p (.tup [.int (frac n d).num,.int (frac n d).den])))->C4 vs H Q E
theorem RT:aO ["top","bottom","divisor"] ["top","bottom"] (aI JM):=by walk_at "s"
theorem wU {a b:Nat}(h:a<=b)(ha:0<a):a.log2<=b.log2:=by
 have h1:=Nat.log2_self_le (n:=a) (by lia);exact (Nat.le_log2 (by lia)).mpr (Nat.le_trans h1 h)
theorem DW {f g:Addr}{fd gd:FuncData}(ab:mg "abs" = none)(F:Def K mg "lowest_terms" JM ["top","bottom"] f fd)(G:Def K mg "common_divisor" EC ["a","b"] g gd):aN P w K mg base CX0 2 f fd ["top","bottom"] C4:=by
 have GG:aN P w K mg base CX0 1 g gd ["a","b"] HP:=M2 ab G;refine F.fn.ok RT (λvs H Q E h=>?_) (λcdv A outer s H vs Q E hr h=>?_)
 ·walk_at "l"
 ·obtain ⟨n,d,rfl,hd,hl,q⟩:=h;refine ⟨_,aG (aQ (i:=2) RT.nd rfl (Or.inl rfl) (aS GG hr (by rfl) G.at_ G.fn.kp G.bd .nil aR (a9 (pv 0) (a9 (pv 1) aC)))) (aE (aP (cA (a9 (b7 pK (pv 0) (pv 2)) (a9 (b7 pK (pv 1) (pv 2)) aC))))),?_⟩;have g0:0<Nat.gcd n d:=Nat.gcd_pos_of_pos_right _ hd;have gl:(Nat.gcd n d).log2<9000:=Nat.lt_of_le_of_lt (wU (Nat.le_of_dvd hd (Nat.gcd_dvd_right _ _)) g0) hl;k_caughtN0;refine ⟨n,d,rfl,_,rfl,⟨by lia,gl⟩,_,rfl,⟨by lia,gl⟩,by decide,?_⟩;rw[dS hd] at q;intro p hp
  have:=q p hp
  rw[Int.natAbs_natCast,Int.natCast_ediv] at this;exact this
abbrev uV:Stmt:=top 80
abbrev pT:Stmt:=top 81
theorem cX {ts:Toks}(h:sB ts){i:Nat}{t:PTok}(ht:ts[i]?=some t)(n:t.tok≠.halt_):∃ t',ts[i+1]?=some t':=by
 obtain ⟨l,p,rfl,hl⟩:=h;obtain ⟨hi,_⟩:=List.getElem?_eq_some_iff.mp ht;rw[List.length_append,List.length_singleton] at hi
 by_cases q:i<l.length
 ·exact ⟨_,List.getElem?_eq_getElem (by rw[List.length_append,List.length_singleton];lia)⟩
 ·have:i=l.length:=by lia
  subst this;rw[List.getElem?_append_right (Nat.le_refl _)] at ht;simp at ht;exact absurd (by rw[← ht]) n
theorem fV {ts:Toks}{i:Nat}{t:PTok}(ht:ts[i]?=some t):ts.drop i=t::ts.drop (i+1):=by
 obtain ⟨hi,e⟩:=List.getElem?_eq_some_iff.mp ht;rw[List.drop_eq_getElem_cons hi,e]
theorem uA {t:VaprbBase.Tok}(h:fO t=2):∃ n,t=.num n:=by
 cases t with
 | num n=>exact ⟨n,rfl⟩
 | name b=>exact absurd h (by simp[fO])
 | sign b=>exact absurd h (by simp[fO])
 | halt_=>exact absurd h (by simp[fO])
theorem oG {ts:Toks}{i p:Nat}{n:Int}(ht:ts[i]?=some ⟨p,.num n⟩):takeNum (ts.drop i)=.ok ((p,n),ts.drop (i+1)):=by rw[fV ht];rfl
theorem oF {ts:Toks}{i:Nat}{t:PTok}(ht:ts[i]?=some t)(h:fO t.tok≠2):takeNum (ts.drop i)=.error ⟨3,t.place⟩:=by
 rw[fV ht];obtain ⟨p,tt⟩:=t
 cases tt with
 | num n=>exact absurd rfl h
 | _=>rfl
theorem iV {ts:Toks}{i:Nat}{t:PTok}{x:VaprbBase.Tok}(ht:ts[i]?=some t):next x (ts.drop i)=decide (t.tok=x):=by
 rw[fV ht];show (t.tok==x)=decide (t.tok=x);rw[Bool.eq_iff_iff,beq_iff_eq,decide_eq_true_eq]
def eA (l:Toks):Except Fault (Int×Toks):=
 if next (.sign 47) l=true then (do let (d,l) ← takeNum (l.drop 1);if d.2<1 then .error ⟨7,d.1⟩ else .ok (d.2,l)) else .ok (1,l)
structure KA (K:PySem.W.Frag)(mg:Str->Option Value):Prop where
 nu:GI mg "NUMBER_words" 2
 orr:GI mg "OUT_OF_RANGE" 7
 ab:mg "abs" = none
 gcd:∃ f fd,Def K mg "common_divisor" EC ["a","b"] f fd
 low:∃ f fd,Def K mg "lowest_terms" JM ["top","bottom"] f fd
 den:∃ f fd,Def K mg "read_denominator" uV ["reader"] f fd
inductive NK (C CR CT:Addr) (vs:List V) (H:Hp) (Q:VK) (E:XK):Prop
 | mk:∀ (r l:Addr) (ts:Toks) (i:Nat) (t:PTok),vs=[.ref r]->c7 CR CT H r l ts i->sB ts->ts[i]?=some t->(match eA (ts.drop i) with
  | .error f=>Flt C E [r] H f.code f.place
  | .ok (d,l')=>∀ (i':Nat) (t':PTok) (H':Hp),l'=ts.drop i'->ts[i']?=some t'->c7 CR CT H' r l ts i'->aH [r] H H'->Q (.int d) H')->NK C CR CT vs H Q E
theorem RS:aO ["reader","token"] ["reader"] (aI uV):=by walk_at "s"
theorem SZ {C CR CT f:Addr}{fd:FuncData}(N:oO K mg C CR CT)(FG:KA K mg)(F:Def K mg "read_denominator" uV ["reader"] f fd):aN P w K mg base (CXF P w C) 5 f fd ["reader"] (NK C CR CT):=by
 obtain ⟨g1,d1,G1⟩:=N.R.isSign;obtain ⟨g2,d2,G2⟩:=N.R.tSign;obtain ⟨g3,d3,G3⟩:=N.R.tKind;obtain ⟨fT,td,TK⟩:=N.TK;obtain ⟨fC,cd,T⟩:=N.T;have O1:aN P w K mg base CX0 2 g1 d1 ["self","sign"] (qB CR CT):=uK N.sg N.R TK G1;have O2:aN P w K mg base (CXF P w C) 4 g2 d2 ["self","sign"] (mO C CR CT):=pI N G2;have O3:aN P w K mg base (CXF P w C) 4 g3 d3 ["self","kind"] (mM C CR CT):=pG N G3;refine F.fn.okX RS (λvs H Q E h=>?_) (λcdv A outer s H vs Q E hr h=>?_)
 ·walk_at "l"
 ·obtain ⟨r,l,ts,i,t,rfl,hR,hE,ht,q⟩:=h;obtain ⟨dx,hr1⟩:=hR.rd
  refine ⟨_,aM (bC (gJ (cE (bA (pv 0) N.R.cl G1.me O1 (hr.mono (by decide)) G1.bd .nil aR (a9 dU aC)))) (aE (aP aF)) aV)
   (aM (bE (bA (pv 0) N.R.cl G2.me O2 hr G2.bd .nil cO (a9 dU aC)))
   (aM (aQ (i:=1) RS.nd rfl (Or.inl rfl) (bA (pv 0) N.R.cl G3.me O3 hr G3.bd .nil cO (a9 (pgi FG.nu) aC)))
   (aM (bC (aT eZ (aJ (pv 1) rfl) aF (aY _)) (aE (cK (k:=0) T rfl dB (hr.mono (by decide)) (pgi FG.orr) (aJ (pv 1) rfl))) aV)
   (aE (aP (aJ (pv 1) rfl)))))),?_⟩
  unfold eA at q;rw[iV ht] at q;have sl:("/" : Str)=⟨#[47]⟩:=by decide +kernel
  refine ⟨λσ' H'=>σ'=[some (.ref r),none]/\H'=H/\t.tok=.sign 47,?_,?_⟩
  ·refine ⟨_,rfl,r,dx,_,rfl,hr1,fB.2.1,r,l,ts,i,t,47,by decide,by rw[sl];rfl,hR,ht,_,rfl,?_⟩;dsimp only
   by_cases h47:t.tok=.sign 47
   ·rw[if_neg (by simp[h47])];exact ⟨rfl,rfl,h47⟩
   ·rw[if_neg (by simp[h47])] at q;rw[if_pos (by simp[h47])];exact q i t H rfl ht hR aH.refl
  ·rintro σ1 H1 ⟨rfl,rfl,h47⟩;rw[if_pos (by simp[h47]),List.drop_drop] at q;obtain ⟨t1,ht1⟩:=cX hE ht (by rw[h47];intro z;cases z);refine ⟨λσ' H'=>σ'=[some (.ref r),none]/\c7 CR CT H' r l ts (i+1)/\aH [r] H1 H',?_,?_⟩
   ·refine ⟨_,rfl,r,dx,_,rfl,hr1,fB.2.2.2.2.2.2.1,r,l,ts,i,t,47,by decide,by rw[sl];rfl,hR,ht,?_⟩;unfold dR;rw[if_pos (by simp[h47])]
    exact λa H' _ hR' kp=>⟨rfl,hR',kp⟩
   ·rintro σ2 H2 ⟨rfl,hR2,k2⟩;obtain ⟨dx2,hr2⟩:=hR2.rd;refine ⟨λσ' H'=>∃ (a:Addr) (p:Nat) (n:Int),σ'=[some (.ref r),some (.ref a)]/\t1=⟨p,.num n⟩/\dC CT H' a t1/\c7 CR CT H' r l ts (i+1+1)/\aH [r] H1 H',?_,?_⟩
    ·refine ⟨_,rfl,r,dx2,_,rfl,hr2,fB.2.2.2.2.2.1,r,l,ts,i+1,t1,2,rfl,hR2,ht1,?_⟩;unfold dR
     by_cases hk:fO t1.tok=2
     ·rw[if_pos (decide_eq_true hk)];obtain ⟨n,hn⟩:=uA hk
      exact λa H' ha hR' kp=>⟨a,t1.place,n,rfl,by rw[← hn],ha,hR',k2.trans kp⟩
     ·rw[if_neg (by simp[hk])];rw[oF ht1 hk] at q;exact Flt.to q k2
    ·rintro σ3 H3 ⟨a,p,n,rfl,rfl,⟨bh,da,ea⟩,hR3,k3⟩;rw[oG ht1] at q
     have q:(match (if n<1 then Except.error ⟨7,p⟩ else Except.ok (n,ts.drop (i+1+1)):Except Fault (Int×Toks)) with
      | .error f=>Flt C E [r] H1 f.code f.place
      | .ok (d,l')=>∀ (i':Nat) (t':PTok) (H':Hp),l'=ts.drop i'->ts[i']?=some t'->c7 CR CT H' r l ts i'->aH [r] H1 H'->Q (.int d) H'):=q
     refine ⟨λσ' H'=>σ'=[some (.ref r),some (.ref a)]/\H'=H3/\¬ n<1,?_,?_⟩
     ·refine ⟨_,rfl,a,CT,da,_,_,rfl,ea,TK.cl,TK.nS,cT _ _ _ _,_,_,rfl,rfl,_,rfl,?_⟩;dsimp only
      by_cases hn:n<1
      ·rw[if_pos hn] at q;rw[if_pos (decide_eq_true hn)];exact ⟨_,rfl,a,CT,da,_,_,rfl,ea,TK.cl,TK.nP,eE _ _ _ _,_,_,rfl,rfl,Flt.to q k3⟩
      ·rw[if_neg (by simp only[decide_eq_true_eq];exact hn)];exact ⟨rfl,rfl,hn⟩
     ·rintro σ4 H4 ⟨rfl,rfl,hn⟩;rw[if_neg hn] at q;obtain ⟨t2,ht2⟩:=cX hE ht1 (by intro z;cases z);exact ⟨_,rfl,a,CT,da,_,_,rfl,ea,TK.cl,TK.nS,cT _ _ _ _,q (i+1+1) t2 H4 rfl ht2 hR3 k3⟩
theorem jN {n:Int}{d:Nat}(hd:0<d):(frac n d).num<0↔n<0:=by
 have h:=iR (n:=n) hd;have hg:=pB (n:=n) hd;constructor
 ·intro z
  have:=Int.mul_neg_of_neg_of_pos z (show (0:Int)<(Nat.gcd n.natAbs d:Nat) by exact_mod_cast hg)
  lia
 ·intro z
  by_cases q:(frac n d).num<0
  ·exact q
  ·have:=Int.mul_nonneg (show 0<=(frac n d).num by lia) (show (0:Int)<=(Nat.gcd n.natAbs d:Nat) by exact_mod_cast Nat.le_of_lt hg)
   lia
theorem kX {n:Int}{d:Nat}(hd:0<d):((frac n d).den:Int)<(frac n d).num↔(d:Int)<n:=by
 have h:=iR (n:=n) hd;have h2:=tZ (n:=n) hd;have hg:=pB (n:=n) hd;have hg':(0:Int)<(Nat.gcd n.natAbs d:Nat):=by exact_mod_cast hg
 have h2':((frac n d).den:Int)*(Nat.gcd n.natAbs d:Nat)=(d:Int):=by exact_mod_cast h2
 constructor
 ·intro z
  have:=Int.mul_lt_mul_of_pos_right z hg'
  lia
 ·intro z;exact Int.lt_of_mul_lt_mul_right (by lia) (Int.le_of_lt hg')
theorem DS (n:Int):Frac.ofInt n=frac n 1:=by
 rw[dS (by decide)];simp[Frac.ofInt]
theorem iK (l:Toks):takeChance l=(do
  let (n,l) ← takeNum l
  let (d,l) ← eA l
  if n.2<0∨d<n.2 then .error ⟨7,n.1⟩ else .ok (frac n.2 d.toNat,l)):=by
 unfold takeChance takeFrac eA
 cases takeNum l with
 | error e=>rfl
 | ok x=>
  obtain ⟨⟨p,n⟩,l1⟩:=x
  by_cases h:next (.sign 47) l1=true
  ·show (Except.bind (Except.bind (Except.ok ((p,n),l1)) λx=>_) _)=Except.bind (Except.ok ((p,n),l1)) λx=>_;simp only[Except.bind,h,if_true]
   cases takeNum (l1.drop 1) with
   | error e=>rfl
   | ok y=>
    obtain ⟨⟨p2,d⟩,l2⟩:=y
    by_cases hd:d<1
    ·simp[bind,Except.bind,hd]
    ·have hp:0<d.toNat:=by lia
     have hc:((d.toNat:Nat):Int)=d:=by lia
     simp only[bind,Except.bind,hd,if_false,jN hp,kX hp,hc]
  ·simp only[bind,Except.bind,h,if_false,Bool.false_eq_true];rw[DS];have hp:0<(1:Int).toNat:=by decide
   simp only[jN (show 0<1 by decide),kX (show 0<1 by decide)];rfl
def iL (ts:Toks):Prop:=∀ x∈ts,∀ n,x.tok=.num n->n.natAbs<=1000000000
theorem lB {m:Bool}{l:Bytes}{n:Int}(h:numberOf m l=some n):n.natAbs<=1000000000:=by
 unfold numberOf at h;split at h
 ·cases h
 ·split at h
  ·cases h
  ·rename_i q;have q1:¬ 1000000000<decimal l:=λz=>q (.inl z);cases h
   split<;>lia
theorem CB {l:Bytes}{t:VaprbBase.Tok}{k:Nat}{n:Int}(h:token l=some (t,k))(e:t=.num n):n.natAbs<=1000000000:=by
 subst e;unfold token at h
 cases l with
 | nil=>cases h
 | cons b r=>
  dsimp only at h;split at h
  ·split at h<;>cases h
  ·split at h
   ·cases q:numberOf false ((b::r).takeWhile isDigit) with
    | none=>rw[q] at h;cases h
    | some m=>rw[q] at h;cases h;exact lB q
   ·split at h
    ·split at h
     ·cases h
     ·cases q:numberOf true (r.takeWhile isDigit) with
      | none=>rw[q] at h;cases h
      | some m=>rw[q] at h;cases h;exact lB q
    ·split at h<;>cases h
theorem mB:∀ (n at_:Nat) (l:Bytes) (ts:Toks),lex n at_ l=.ok ts->iL ts
 | 0,at_,l,ts,h=>by cases h;intro x hx n e;simp at hx;subst hx;cases e
 | n+1,at_,[],ts,h=>by cases h;intro x hx n e;simp at hx;subst hx;cases e
 | n+1,at_,b::r,ts,h=>by
  unfold lex at h;split at h
  ·exact mB n _ _ ts h
  ·split at h
   ·exact mB n _ _ ts h
   ·split at h
    ·cases h
    ·rename_i t k q
     cases e:lex n (at_+k) ((b::r).drop k) with
     | error f=>rw[e] at h;cases h
     | ok l'=>
      rw[e] at h;cases h;intro x hx m em
      rcases List.mem_cons.mp hx with rfl|hx
      ·exact CB q em
      ·exact mB n _ _ l' e x hx m em
theorem qJ {b:Bytes}{ts:Toks}(h:tokens b=.ok ts):iL ts:=by
 unfold tokens at h;split at h
 ·cases h
 ·exact mB _ _ _ _ h
theorem w4 {ts:Toks}{i:Nat}{d:Int}{l:Toks}(hs:iL ts)(h:eA (ts.drop i)=.ok (d,l)):1<=d/\d<=1000000000:=by
 unfold eA at h;split at h
 ·rw[List.drop_drop] at h
  cases e:takeNum (ts.drop (i+1)) with
  | error f=>rw[e] at h;cases h
  | ok x=>
   obtain ⟨⟨p,n⟩,l2⟩:=x;rw[e] at h;have h:(if n<1 then Except.error ⟨7,p⟩ else Except.ok (n,l2):Except Fault (Int×Toks))=.ok (d,l):=h;split at h
   ·cases h
   ·cases h
    cases q:ts[i+1]? with
    | none=>
     rw[List.drop_eq_nil_of_le (List.getElem?_eq_none_iff.mp q)] at e;cases e
    | some t=>
     by_cases hk:fO t.tok=2
     ·obtain ⟨m,hm⟩:=uA hk;obtain ⟨tp,tt⟩:=t;subst hm;rw[oG q] at e;cases e
      have:=hs _ (List.mem_of_getElem? q) d rfl
      lia
     ·rw[oF q hk] at e;cases e
 ·cases h;lia
inductive v8 (C CR CT:Addr) (vs:List V) (H:Hp) (Q:VK) (E:XK):Prop
 | mk:∀ (r l:Addr) (ts:Toks) (i:Nat) (t:PTok),vs=[.ref r]->c7 CR CT H r l ts i->sB ts->iL ts->ts[i]?=some t->(match takeChance (ts.drop i) with
  | .error f=>Flt C E [r] H f.code f.place
  | .ok (x,l')=>∀ (i' p:Nat) (t':PTok) (H':Hp),l'=ts.drop i'->ts[i']?=some t'->c7 CR CT H' r l ts i'->H' p=some (.tup [.int x.num,.int x.den])->H p=none->aH [r] H H'->Q (.ref p) H')->v8 C CR CT vs H Q E
theorem uZ:aO ["reader","first","bottom"] ["reader"] (aI pT):=by walk_at "s"
theorem aH.none {S:List Addr}{H H':Hp}{p:Addr}(k:aH S H H')(h:H' p=Option.none)(n:p∉S):H p=Option.none:=by
 cases q:H p with
 | none=>rfl
 | some o=>rw[k p o q n] at h;cases h
theorem c7.laid {CR CT r l p:Addr}{H:Hp}{ts:Toks}{i:Nat}{o:HO}(h:c7 CR CT H r l ts i)(n:H p=Option.none):c7 CR CT (upd H p o) r l ts i:=by
 obtain ⟨⟨dx,h1⟩,as,h2,h3⟩:=h;exact ⟨⟨dx,by rw[aB (aD h1 n)];exact h1⟩,as,by rw[aB (aD h2 n)];exact h2,Paired.mapP h3 λ_ _ ⟨bh,da,e⟩=>⟨bh,da,by rw[aB (aD e n)];exact e⟩⟩
theorem dC.keepR {CR CT a r dx:Addr}{H H':Hp}{t:PTok}{fs:List (Str×V)}(h:dC CT H a t)(hr:H r=some (.ins CR dx fs))(nc:CR≠CT)(k:aH [r] H H'):dC CT H' a t:=by
 obtain ⟨bh,da,e⟩:=h;exact ⟨bh,da,k _ _ e (by simpa using bI e hr (by intro q;injection q with q;exact nc q.symm))⟩
theorem J9 {C CR CT f:Addr}{fd:FuncData}(N:oO K mg C CR CT)(FG:KA K mg)(F:Def K mg "read_chance" pT ["reader"] f fd):aN P w K mg base (CXF P w C) 6 f fd ["reader"] (v8 C CR CT):=by
 obtain ⟨g1,d1,G1⟩:=N.R.tKind;obtain ⟨g2,d2,G2⟩:=FG.den;obtain ⟨g3,d3,G3⟩:=FG.low;obtain ⟨g4,d4,G4⟩:=FG.gcd;obtain ⟨fT,td,TK⟩:=N.TK;obtain ⟨fC,cd,T⟩:=N.T;have O1:aN P w K mg base (CXF P w C) 4 g1 d1 ["self","kind"] (mM C CR CT):=pG N G1;have O2:aN P w K mg base (CXF P w C) 5 g2 d2 ["reader"] (NK C CR CT):=SZ N FG G2;have O3:aN P w K mg base CX0 2 g3 d3 ["top","bottom"] C4:=DW FG.ab G3 G4;refine F.fn.okX uZ (λvs H Q E h=>?_) (λcdv A outer s H vs Q E hr h=>?_)
 ·walk_at "l"
 ·obtain ⟨r,l,ts,i,t,rfl,hR,hE,hSm,ht,q⟩:=h;obtain ⟨dx,hr1⟩:=hR.rd;rw[iK] at q
  refine ⟨_,aM (aQ (i:=1) uZ.nd rfl (Or.inl rfl) (bA (pv 0) N.R.cl G1.me O1 (hr.mono (by decide)) G1.bd .nil cO (a9 (pgi FG.nu) aC)))
   (aM (aQ (i:=2) uZ.nd rfl (Or.inl rfl) (aS O2 hr (by rfl) G2.at_ G2.fn.kp G2.bd .nil cO (a9 (pv 0) aC)))
   (aM (bC (PW.pt (kO (aT eZ (aJ (pv 1) rfl) aF (aY _)) (iJ (aT sH (aJ (pv 1) rfl) (pv 2) (aY _))))) (aE (cK (k:=0) T rfl dB (hr.mono (by decide)) (pgi FG.orr) (aJ (pv 1) rfl))) aV)
   (aE (aP (aS O3 (hr.mono (by decide)) (by rfl) G3.at_ G3.fn.kp G3.bd .nil aR (a9 (aJ (pv 1) rfl) (a9 (pv 2) aC))))))),?_⟩
  refine ⟨λσ' H'=>∃ (a:Addr) (p:Nat) (n:Int),σ'=[some (.ref r),some (.ref a),none]/\t=⟨p,.num n⟩/\dC CT H' a t/\c7 CR CT H' r l ts (i+1)/\aH [r] H H',?_,?_⟩
  ·refine ⟨_,rfl,r,dx,_,rfl,hr1,fB.2.2.2.2.2.1,r,l,ts,i,t,2,rfl,hR,ht,?_⟩;unfold dR
   by_cases hk:fO t.tok=2
   ·rw[if_pos (decide_eq_true hk)];obtain ⟨n,hn⟩:=uA hk
    exact λa H' ha hR' kp=>⟨a,t.place,n,rfl,by rw[← hn],ha,hR',kp⟩
   ·rw[if_neg (by simp[hk])];rw[oF ht hk] at q;exact Flt.to q aH.refl
  ·rintro σ1 H1 ⟨a,p,n,rfl,rfl,hta,hR1,k1⟩;rw[oG ht] at q;obtain ⟨t1,ht1⟩:=cX hE ht (by intro z;cases z);obtain ⟨dx1,hr1'⟩:=hR1.rd
   cases ed:eA (ts.drop (i+1)) with
   | error e=>
    have q:Flt C E [r] H e.code e.place:=by
     have q2:=q;simp only[bind,Except.bind,ed] at q2;exact q2
    refine ⟨λ_ _=>False,⟨_,rfl,r,l,ts,i+1,t1,rfl,hR1,hE,ht1,?_⟩,λ_ _ z=>z.elim⟩;rw[ed];exact Flt.keep q k1
   | ok x=>
    obtain ⟨d,l'⟩:=x
    have q:(match (if n<0∨d<n then Except.error ⟨7,p⟩ else Except.ok (frac n d.toNat,l'):Except Fault (Frac×Toks)) with
      | .error f=>Flt C E [r] H f.code f.place
      | .ok (x,l')=>∀ (i' p:Nat) (t':PTok) (H':Hp),l'=ts.drop i'->ts[i']?=some t'->c7 CR CT H' r l ts i'->H' p=some (.tup [.int x.num,.int x.den])->H p=none->aH [r] H H'->Q (.ref p) H'):=by
     have q2:=q;simp only[bind,Except.bind,ed] at q2;exact q2
    obtain ⟨d1',d2'⟩:=w4 hSm ed;refine ⟨λσ' H'=>∃ (i':Nat) (t':PTok),σ'=[some (.ref r),some (.ref a),some (.int d)]/\dC CT H' a ⟨p,.num n⟩/\c7 CR CT H' r l ts i'/\l'=ts.drop i'/\ts[i']?=some t'/\aH [r] H H',⟨_,rfl,r,l,ts,i+1,t1,rfl,hR1,hE,ht1,?_⟩,?_⟩
    ·rw[ed]
     exact λi' t' H' e1 e2 hR' kp=>⟨i',t',rfl,hta.keepR hr1' N.nc kp,hR',e1,e2,k1.trans kp⟩
    ·rintro σ2 H2 ⟨i',t',rfl,⟨bh,da,ea⟩,hR2,el,ht',k2⟩;refine ⟨λσ' H'=>σ'=[some (.ref r),some (.ref a),some (.int d)]/\H'=H2/\¬ (n<0∨d<n),?_,?_⟩
     ·refine ⟨_,rfl,a,CT,da,_,_,rfl,ea,TK.cl,TK.nS,cT _ _ _ _,_,_,rfl,rfl,_,rfl,?_⟩;dsimp only
      have bad:n<0∨d<n->Flt C E [] H2 7 p:=λhb=>by
       rw[if_pos hb] at q;exact Flt.to q k2
      by_cases h0:n<0
      ·rw[if_pos (decide_eq_true h0),if_pos rfl];exact ⟨_,rfl,a,CT,da,_,_,rfl,ea,TK.cl,TK.nP,eE _ _ _ _,_,_,rfl,rfl,bad (.inl h0)⟩
      ·rw[if_neg (by simp only[decide_eq_true_eq];exact h0)];refine ⟨_,rfl,a,CT,da,_,_,rfl,ea,TK.cl,TK.nS,cT _ _ _ _,_,rfl,_,_,rfl,rfl,_,rfl,?_⟩
       by_cases h1:d<n
       ·rw[if_pos (decide_eq_true h1)];exact ⟨_,rfl,a,CT,da,_,_,rfl,ea,TK.cl,TK.nP,eE _ _ _ _,_,_,rfl,rfl,bad (.inr h1)⟩
       ·rw[if_neg (by simp only[decide_eq_true_eq];exact h1)];exact ⟨rfl,rfl,λz=>z.elim h0 h1⟩
     ·rintro σ3 H3 ⟨rfl,rfl,hnb⟩;rw[if_neg hnb] at q;refine ⟨_,rfl,a,CT,da,_,_,rfl,ea,TK.cl,TK.nS,cT _ _ _ _,_,rfl,n.toNat,d.toNat,?_,by lia,?_,λp' np'=>?_⟩
      ·rw[show ((n.toNat:Nat):Int)=n by lia,show ((d.toNat:Nat):Int)=d by lia];rfl
      ·have:d.toNat.log2<=(1000000000:Nat).log2:=wU (by lia) (by lia)
       exact Nat.lt_of_le_of_lt this (by decide +kernel)
      ·rw[show ((n.toNat:Nat):Int)=n by lia];obtain ⟨dx3,hr3⟩:=hR2.rd;exact q i' p' t' _ el ht' (hR2.laid np') aA (k2.none np' (by simpa using aD hr3 np' |>.symm)) (k2.trans (aH.laid np'))
abbrev EE:Stmt:=eW (top 78) 0
abbrev N0:Stmt:=top 79
abbrev BY:Stmt:=top 82
abbrev pY:Stmt:=top 83
def vsF (nl cl:Addr):List (Str×V):=[("names",.ref nl),("chances",.ref cl)]
theorem CN (nl cl:Addr):(vsF nl cl).lookup ("names" : Str)=some (.ref nl):=rfl
theorem F4 (nl cl:Addr):(vsF nl cl).lookup ("chances" : Str)=some (.ref cl):=by with_unfolding_all rfl
def nmV (nms:List Bytes):List V:=nms.map λb=>V.str (cB b)
theorem SM (b:Bytes)(nms:List Bytes):inV (.str (cB b)) (nmV nms)=nms.any (λv=>v==b):=by
 unfold inV nmV;rw[List.any_map];congr 1;funext r
 show (cB r==cB b)=(r==b)
 rw[Bool.eq_iff_iff,beq_iff_eq,beq_iff_eq];exact ⟨λz=>lV z,λz=>by rw[z]⟩
theorem P6 (nms:List Bytes):(nmV nms).all kM=true:=by
 unfold nmV;rw[List.all_map];exact List.all_eq_true.mpr λ_ _=>rfl
structure VAt (CV:Addr)(H:Hp)(v nl cl:Addr)(nms:List Bytes)(fs:List Frac):Prop where
 ob:∃ dx,H v=some (.ins CV dx (vsF nl cl))
 nm:H nl=some (.lst (nmV nms))
 ch:∃ as:List Addr,H cl=some (.lst (as.map V.ref))/\Paired (λa (f:Frac)=>H a=some (.tup [.int f.num,.int f.den])) as fs
 ne:nl≠cl
structure V8 (K:PySem.W.Frag)(mg:Str->Option Value)(CV f:Addr)(fd:FuncData):Prop where
 cl:Cls K CV
 mak:Mk K CV f
 nN:aZ K CV "names"
 nC:aZ K CV "chances"
 at_:mg "Variables" = some (.ref CV)
 fn:Fun K "__init__" "Variables.__init__" EE f fd
 bd:cZ K fd ["self"] []
inductive zX (CV:Addr) (vs:List V) (H:Hp) (Q:VK) (E:XK):Prop
 | mk:∀ v dx:Addr,vs=[.ref v]->H v=some (.ins CV dx [])->(∀ (nl cl:Addr) (H':Hp),VAt CV H' v nl cl [] []->H nl=none->H cl=none->aH [v] H H'->Q .non H')->zX CV vs H Q E
theorem QP:aO ["self"] ["self"] (aI EE):=by walk_at "s"
theorem ME {CV f:Addr}{fd:FuncData}(T:V8 K mg CV f fd):aN P w K mg base CX0 1 f fd ["self"] (zX CV):=by
 refine T.fn.ok QP (λvs H Q E h=>?_) (λcdv A outer s H vs Q E hr h=>?_)
 ·walk_at "l"
 ·obtain ⟨v,dx,rfl,hv,q⟩:=h;refine ⟨_,aG (bY (pv 0) (bD aC) rfl) (aE (bY (pv 0) (bD aC) rfl)),?_⟩;refine ⟨Nat.zero_le _,λnl n1=>⟨_,rfl,v,CV,dx,_,rfl,by rw[aB (aD hv n1)];exact hv,T.cl,T.nN,by show 0<1000;decide,Nat.zero_le _,λcl n2=>⟨_,rfl,v,CV,dx,iY "names" (.ref nl) [],rfl,?_,T.cl,T.nC,by show 1<1000;decide,?_⟩⟩⟩
  ·have:v≠cl:=λz=>by rw[← z,aA] at n2;cases n2
   rw[aB this,aA]
  ·have nvc:v≠cl:=λz=>by rw[← z,aA] at n2;cases n2
   have nvn:v≠nl:=aD hv n1;have ncn:cl≠nl:=λz=>by rw[z,aB (Ne.symm nvn),aA] at n2;cases n2
   have n2':H cl=none:=by rw[aB (Ne.symm nvc),aB ncn] at n2;exact n2
   refine q nl cl _ ⟨⟨dx,aA.trans (by with_unfolding_all rfl)⟩,?_,⟨[],?_,.nil⟩,Ne.symm ncn⟩ n1 n2' λb o z nb=>?_
   ·rw[aB (Ne.symm nvn),aB (Ne.symm ncn),aB (Ne.symm nvn),aA];rfl
   ·rw[aB (Ne.symm nvc),aA];rfl
   ·have nb':b≠v:=by simpa using nb
    rw[aB nb',aB (aD z n2'),aB nb',aB (aD z n1)];exact z
structure V1 (K:PySem.W.Frag)(mg:Str->Option Value):Prop where
 len:mg "len" = none
 mv:GI mg "MOST_VARIABLES" 12
 tm:GI mg "TOO_MANY" 4
 nt:GI mg "NAME_TAKEN" 5
inductive NL (C CR CT:Addr) (vs:List V) (H:Hp) (Q:VK) (E:XK):Prop
 | mk:∀ (r l nl:Addr) (ts:Toks) (i:Nat) (t:PTok) (nms:List Bytes),vs=[.ref r,.ref nl]->c7 CR CT H r l ts i->ts[i]?=some t->H nl=some (.lst (nmV nms))->(match t.tok with
  | .name b=>if RESERVED.contains b=true then Flt C E [] H 3 t.place else if nms.length=12 then Flt C E [r] H 4 t.place else if nms.any (λv=>v==b)=true then Flt C E [r] H 5 t.place
   else ∀ H',c7 CR CT H' r l ts (i+1)->aH [r] H H'->Q (.str (cB b)) H'
  | _=>Flt C E [] H 3 t.place)->NL C CR CT vs H Q E
theorem RU:aO ["reader","names","token"] ["reader","names"] (aI N0):=by walk_at "s"
theorem T4 {C CR CT f:Addr}{fd:FuncData}(N:oO K mg C CR CT)(NG:wB K mg)(W:V1 K mg)(F:Def K mg "read_new_name" N0 ["reader","names"] f fd):aN P w K mg base (CXF P w C) 5 f fd ["reader","names"] (NL C CR CT):=by
 obtain ⟨g1,d1,G1⟩:=N.R.tName;obtain ⟨fT,td,TK⟩:=N.TK;obtain ⟨fC,cd,T⟩:=N.T;have O1:aN P w K mg base (CXF P w C) 4 g1 d1 ["self"] (zV C CR CT):=M9 N NG G1;refine F.fn.okX RU (λvs H Q E h=>?_) (λcdv A outer s H vs Q E hr h=>?_)
 ·walk_at "l"
 ·obtain ⟨r,l,nl,ts,i,t,nms,rfl,hR,ht,hn,q⟩:=h;obtain ⟨dx,hr1⟩:=hR.rd;have nrn:nl≠r:=bI hn hr1 (by intro z;cases z)
  refine ⟨_,aM (aQ (i:=2) RU.nd rfl (Or.inl rfl) (c6 (pv 0) N.R.cl G1.me O1 hr G1.bd .nil cO))
   (aM (bC (aT bV (b9 aU (by rfl) W.len PySem.boot_len (a9 (pv 1) aC)) (pgi W.mv) (aY _)) (aE (cK (k:=0) T rfl dB (hr.mono (by decide)) (pgi W.tm) (aJ (pv 2) rfl))) aV)
   (aM (bC (aT mD (aJ (pv 2) rfl) (pv 1) (by with_unfolding_all rfl)) (aE (cK (k:=0) T rfl dB (hr.mono (by decide)) (pgi W.nt) (aJ (pv 2) rfl))) aV)
   (aE (aP (aJ (pv 2) rfl))))),?_⟩
  refine ⟨λσ' H'=>∃ (a:Addr) (p:Nat) (b:Bytes),σ'=[some (.ref r),some (.ref nl),some (.ref a)]/\t=⟨p,.name b⟩/\RESERVED.contains b=false/\dC CT H' a t/\c7 CR CT H' r l ts (i+1)/\aH [r] H H',?_,?_⟩
  ·refine ⟨_,rfl,r,dx,_,rfl,hr1,fB.2.2.2.2.2.2.2,r,l,ts,i,t,rfl,hR,ht,?_⟩;unfold dR;obtain ⟨p,tt⟩:=t
   cases tt with
   | name b=>
    dsimp only at q;have eN:u6 (VaprbBase.Tok.name b)=!RESERVED.contains b:=rfl
    by_cases hb:RESERVED.contains b=true
    ·rw[if_pos hb] at q;rw[if_neg (show ¬ u6 (VaprbBase.Tok.name b)=true by rw[eN,hb];decide)];exact q
    ·have hb':RESERVED.contains b=false:=by simpa using hb
     rw[if_pos (show u6 (VaprbBase.Tok.name b)=true by rw[eN,hb'];rfl)]
     exact λa H' ha hR' kp=>⟨a,p,b,rfl,rfl,hb',ha,hR',kp⟩
   | num n=>exact q
   | sign n=>exact q
   | halt_=>exact q
  ·rintro σ1 H1 ⟨a,p,b,rfl,rfl,hb,⟨bh,da,ea⟩,hR1,k1⟩;dsimp only at q;rw[if_neg (by rw[hb];exact Bool.false_ne_true)] at q;have hn1:H1 nl=some (.lst (nmV nms)):=k1 _ _ hn (by simpa using nrn);refine ⟨λσ' H'=>σ'=[some (.ref r),some (.ref nl),some (.ref a)]/\H'=H1/\¬ nms.length=12,?_,?_⟩
   ·refine ⟨_,rfl,nl,_,rfl,.inl (SqL.of hn1),rfl,_,rfl,?_⟩
    show if decide (V.int _=V.int _)=true then _ else _
    rw[cV,show (nmV nms).length=nms.length from List.length_map ..]
    by_cases h12:nms.length=12
    ·rw[if_pos h12] at q;rw[if_pos (decide_eq_true (by lia))];exact ⟨_,rfl,a,CT,da,_,_,rfl,ea,TK.cl,TK.nP,eE _ _ _ _,_,_,rfl,rfl,Flt.to q k1⟩
    ·rw[if_neg (by simp only[decide_eq_true_eq];lia)];exact ⟨rfl,rfl,h12⟩
   ·rintro σ2 H2 ⟨rfl,rfl,h12⟩;rw[if_neg h12] at q;refine ⟨λσ' H'=>σ'=[some (.ref r),some (.ref nl),some (.ref a)]/\H'=H2/\nms.any (λv=>v==b)=false,?_,?_⟩
    ·refine ⟨_,rfl,a,CT,da,_,_,rfl,ea,TK.cl,TK.nS,cT _ _ _ _,_,rfl,nl,_,rfl,.inl (SqL.of hn1),rfl,P6 _,_,rfl,?_⟩
     show if (if false=true then _ else inV (.str (cB b)) (nmV nms))=true then _ else _
     rw[if_neg Bool.false_ne_true,SM]
     cases hi:nms.any (λv=>v==b) with
     | true=>
      rw[if_pos hi] at q;rw[if_pos rfl];exact ⟨_,rfl,a,CT,da,_,_,rfl,ea,TK.cl,TK.nP,eE _ _ _ _,_,_,rfl,rfl,Flt.to q k1⟩
     | false=>
      rw[if_neg Bool.false_ne_true];exact ⟨rfl,rfl,rfl⟩
    ·rintro σ3 H3 ⟨rfl,rfl,hi⟩;rw[if_neg (by rw[hi];exact Bool.false_ne_true)] at q;exact ⟨_,rfl,a,CT,da,_,_,rfl,ea,TK.cl,TK.nS,cT _ _ _ _,q _ hR1 k1⟩
end
end TC
namespace TC
open PySem PySem.Spec PyProof.Rows L2 XF VaprbBase Mth
open Vaprbg (Var)
def cN (vs:List Var)(l:Toks):Except Fault (Var×Toks):=
 if nameNext l=true/\Vaprbg.VARS<=vs.length then .error ⟨4,here l⟩
 else do
  let (x,l) ← takeName l
  if (vs.any λv=>v.name==x.name)=true then .error ⟨5,x.place⟩
  let l ← takeSign 58 l
  let (c,l) ← takeChance l
  .ok (⟨x.name,c⟩,l)
theorem mV (n:Nat)(vs:List Var)(l:Toks):Vaprbg.takeVars (n+1) vs l=(do
  let (x,l) ← cN vs l
  if next .halt_ l=true then .ok (vs++[x])
  else
   let l ← takeSign 44 l
   Vaprbg.takeVars n (vs++[x]) l):=by
 rw[Vaprbg.takeVars];unfold cN
 by_cases h:nameNext l=true/\Vaprbg.VARS<=vs.length
 ·rw[if_pos h,if_pos h];rfl
 ·rw[if_neg h,if_neg h]
  cases takeName l with
  | error e=>rfl
  | ok x=>
   obtain ⟨x,l1⟩:=x;simp only[bind,Except.bind]
   by_cases h2:(vs.any λv=>v.name==x.name)=true
   ·simp only[h2,if_true]
   ·simp only[h2,if_false]
    cases takeSign 58 l1 with
    | error e=>rfl
    | ok l2=>
     simp only[pure,Except.pure]
     cases takeChance l2 with
     | error e=>rfl
     | ok y=>rfl
theorem fH {ts:Toks}{i c:Nat}{t:PTok}(ht:ts[i]?=some t):takeSign c (ts.drop i)=if t.tok=.sign c then .ok (ts.drop (i+1)) else .error ⟨3,t.place⟩:=by
 unfold takeSign take;rw[iV ht,List.drop_drop]
 by_cases h:t.tok=.sign c
 ·rw[if_pos (decide_eq_true h),if_pos h]
 ·rw[if_neg (by simp[h]),if_neg h];unfold wrong;rw[fV ht];rfl
theorem qE {ts:Toks}{i:Nat}{t:PTok}(ht:ts[i]?=some t):takeName (ts.drop i)=match t.tok with
  | .name b=>if RESERVED.contains b=true then .error ⟨3,t.place⟩ else .ok (⟨t.place,b⟩,ts.drop (i+1))
  | _=>.error ⟨3,t.place⟩:=by
 rw[fV ht];obtain ⟨p,tt⟩:=t;cases tt<;>rfl
theorem eY {ts:Toks}{i:Nat}{t:PTok}(ht:ts[i]?=some t):nameNext (ts.drop i)=u6 t.tok/\here (ts.drop i)=t.place:=by
 rw[fV ht];obtain ⟨p,tt⟩:=t;cases tt<;>exact ⟨rfl,rfl⟩
theorem gD {ts:Toks}{i:Nat}{t:PTok}{vs:List Var}(ht:ts[i]?=some t)(h:u6 t.tok=false):cN vs (ts.drop i)=.error ⟨3,t.place⟩:=by
 unfold cN;rw[(eY ht).1,h,if_neg (by simp),qE ht];obtain ⟨p,tt⟩:=t
 cases tt with
 | name b=>
  have hb:RESERVED.contains b=true:=by
   have:(!RESERVED.contains b)=false:=h
   simpa using this
  simp only[hb,if_true];rfl
 | _=>rfl
theorem qG {ts:Toks}{i:Nat}{t:PTok}{vs:List Var}(ht:ts[i]?=some t)(h:u6 t.tok=true)(h12:12<=vs.length):cN vs (ts.drop i)=.error ⟨4,t.place⟩:=by
 unfold cN;rw[(eY ht).1,(eY ht).2,if_pos ⟨h,h12⟩]
theorem qH {ts:Toks}{i p:Nat}{b:Bytes}{vs:List Var}(ht:ts[i]?=some ⟨p,.name b⟩)(hb:RESERVED.contains b=false)(h12:vs.length<12):cN vs (ts.drop i)=
  if (vs.any λv=>v.name==b)=true then .error ⟨5,p⟩ else Except.bind (takeSign 58 (ts.drop (i+1))) λl=>Except.bind (takeChance l) λx=>.ok (⟨b,x.1⟩,x.2):=by
 unfold cN;have h12':¬ Vaprbg.VARS<=vs.length:=by show ¬ 12<=vs.length;lia
 rw[if_neg (λz=>h12' z.2),qE ht];simp only[hb,if_false,Bool.false_eq_true]
 by_cases ha:(vs.any λv=>v.name==b)=true
 ·simp only[bind,Except.bind,ha,if_true]
 ·simp only[bind,Except.bind,ha,if_false,Bool.false_eq_true]
theorem c7.updL {CR CT r l n:Addr}{H:Hp}{ts:Toks}{i:Nat}{xs ys:List V}(h:c7 CR CT H r l ts i)(hn:H n=some (.lst xs))(ne:l≠n):c7 CR CT (upd H n (.lst ys)) r l ts i:=by
 obtain ⟨⟨dx,h1⟩,as,h2,h3⟩:=h;exact ⟨⟨dx,by rw[aB (bI h1 hn (by intro z;cases z))];exact h1⟩,as,by rw[aB ne];exact h2,Paired.mapP h3 λ_ _ z=>z.keep hn⟩
theorem VAt.keepR {CV CR v nl cl r dx:Addr}{H H':Hp}{nms:List Bytes}{fs:List Frac}{f0:List (Str×V)}(h:VAt CV H v nl cl nms fs)(hr:H r=some (.ins CR dx f0))(nc:CV≠CR)(k:aH [r] H H'):VAt CV H' v nl cl nms fs:=by
 obtain ⟨⟨dv,h1⟩,h2,⟨as,h3,h4⟩,ne⟩:=h;refine ⟨⟨dv,k _ _ h1 (by simpa using bI h1 hr (by intro q;injection q with q;exact nc q))⟩,k _ _ h2 (by simpa using bI h2 hr (by intro z;cases z)),⟨as,k _ _ h3 (by simpa using bI h3 hr (by intro z;cases z)),Paired.mapP h4 λa f e=>k _ _ e (by simpa using bI e hr (by intro z;cases z))⟩,ne⟩
theorem VAt.pushN {CV v nl cl:Addr}{H:Hp}{nms:List Bytes}{fs:List Frac}(b:Bytes)(h:VAt CV H v nl cl nms fs):VAt CV (upd H nl (.lst (nmV nms++[.str (cB b)]))) v nl cl (nms++[b]) fs:=by
 obtain ⟨⟨dv,h1⟩,h2,⟨as,h3,h4⟩,ne⟩:=h;refine ⟨⟨dv,by rw[aB (bI h1 h2 (by intro z;cases z))];exact h1⟩,by rw[aA];unfold nmV;rw[List.map_append];rfl,⟨as,by rw[aB (Ne.symm ne)];exact h3,Paired.mapP h4 λa f e=>by rw[aB (bI e h2 (by intro z;cases z))];exact e⟩,ne⟩
theorem bB {α β:Type}{F:α->β->Prop}:∀ {xs:List α} {ys:List β},Paired F xs ys->xs.length=ys.length
 | _,_,.nil=>rfl
 | _,_,.cons _ t=>by rw[List.length_cons,List.length_cons,bB t]
theorem VAt.pushC {CV v nl cl p:Addr}{H:Hp}{nms:List Bytes}{fs:List Frac}{f:Frac}{as:List Addr}(h:VAt CV H v nl cl nms fs)(ha:H cl=some (.lst (as.map V.ref)))(hp:Paired (λa (f:Frac)=>H a=some (.tup [.int f.num,.int f.den])) as fs)(e:H p=some (.tup [.int f.num,.int f.den])):
  VAt CV (upd H cl (.lst (as.map V.ref++[.ref p]))) v nl cl nms (fs++[f]):=by
 obtain ⟨⟨dv,h1⟩,h2,_,ne⟩:=h;refine ⟨⟨dv,by rw[aB (bI h1 ha (by intro z;cases z))];exact h1⟩,by rw[aB ne];exact h2,⟨as++[p],by rw[aA,List.map_append];rfl,Paired.snoc (Paired.mapP hp λa f e=>by rw[aB (bI e ha (by intro z;cases z))];exact e) (by rw[aB (bI e ha (by intro z;cases z))];exact e)⟩,ne⟩
section
variable {P:Program}{w:World}{K:PySem.W.Frag}{mg:Str->Option Value}{base:Heap}
structure KF (K:PySem.W.Frag)(mg:Str->Option Value)(C CR CT CV:Addr):Prop where
 tk:oO K mg C CR CT
 ng:wB K mg
 nw:V1 K mg
 fg:KA K mg
 vc:∃ f fd,V8 K mg CV f fd
 nc:CV≠CR
 new:∃ f fd,Def K mg "read_new_name" N0 ["reader","names"] f fd
 cha:∃ f fd,Def K mg "read_chance" pT ["reader"] f fd
inductive zT (C CR CT CV:Addr) (us:List V) (H:Hp) (Q:VK) (E:XK):Prop
 | mk:∀ (r l v nl cl:Addr) (ts:Toks) (i:Nat) (t:PTok) (vs:List Var),us=[.ref r,.ref v]->c7 CR CT H r l ts i->sB ts->iL ts->ts[i]?=some t->VAt CV H v nl cl (vs.map (·.name)) (vs.map (·.chance))->l≠nl->l≠cl->vs.length<=12->(match cN vs (ts.drop i) with
  | .error f=>Flt C E [r,nl,cl] H f.code f.place
  | .ok (x,l')=>∀ (i':Nat) (t':PTok) (H':Hp),l'=ts.drop i'->ts[i']?=some t'->c7 CR CT H' r l ts i'->VAt CV H' v nl cl ((vs++[x]).map (·.name)) ((vs++[x]).map (·.chance))->aH [r,nl,cl] H H'->Q .non H')->zT C CR CT CV us H Q E
theorem U8:aO ["reader","variables"] ["reader","variables"] (aI BY):=by walk_at "s"
theorem PQ {C CR CT CV f:Addr}{fd:FuncData}(N:KF K mg C CR CT CV)(F:Def K mg "read_variable" BY ["reader","variables"] f fd):aN P w K mg base (CXF P w C) 7 f fd ["reader","variables"] (zT C CR CT CV):=by
 obtain ⟨g1,d1,G1⟩:=N.new;obtain ⟨g2,d2,G2⟩:=N.tk.R.tSign;obtain ⟨g3,d3,G3⟩:=N.cha;obtain ⟨fv,dv,VC⟩:=N.vc;have O1:aN P w K mg base (CXF P w C) 5 g1 d1 ["reader","names"] (NL C CR CT):=T4 N.tk N.ng N.nw G1;have O2:aN P w K mg base (CXF P w C) 4 g2 d2 ["self","sign"] (mO C CR CT):=pI N.tk G2;have O3:aN P w K mg base (CXF P w C) 6 g3 d3 ["reader"] (v8 C CR CT):=J9 N.tk N.fg G3;refine F.fn.okX U8 (λus H Q E h=>?_) (λcdv A outer s H us Q E hr h=>?_)
 ·walk_at "l"
 ·obtain ⟨r,l,v,nl,cl,ts,i,t,vs,rfl,hR,hE,hSm,ht,hV,nln,nlc,h12,q⟩:=h;obtain ⟨dx,hr1⟩:=hR.rd;obtain ⟨dvx,hv1⟩:=hV.ob
  refine ⟨_,aM (bE (iB PySem.F.plainAttrs_list PySem.F.slot_list_append PySem.F.type_list_append dG (aJ (pv 1) rfl) (a9 (aS O1 (hr.mono (by decide)) (by rfl) G1.at_ G1.fn.kp G1.bd .nil cO (a9 (pv 0) (a9 (aJ (pv 1) rfl) aC))) aC)))
   (aM (bE (bA (pv 0) N.tk.R.cl G2.me O2 (hr.mono (by decide)) G2.bd .nil cO (a9 dU aC)))
   (aE (bE (iB PySem.F.plainAttrs_list PySem.F.slot_list_append PySem.F.type_list_append dG (aJ (pv 1) rfl) (a9 (aS O3 hr (by rfl) G3.at_ G3.fn.kp G3.bd .nil cO (a9 (pv 0) aC)) aC))))),?_⟩
  have k3:∀ b:Addr,b∈[r]->b∈[r,nl,cl]:=λb hb=>by simp at hb;simp[hb]
  refine ⟨λσ' H'=>∃ b:Bytes,t.tok=.name b/\u6 t.tok=true/\vs.length<12/\(vs.any λv=>v.name==b)=false/\σ'=[some (.ref r),some (.ref v)]/\c7 CR CT H' r l ts (i+1)/\VAt CV H' v nl cl (vs.map (·.name)++[b]) (vs.map (·.chance))/\aH [r,nl,cl] H H',?_,?_⟩
  ·refine ⟨_,rfl,v,CV,dvx,_,_,rfl,hv1,VC.cl,VC.nN,CN _ _,.inl ⟨rfl,_,SqL.of hV.nm⟩,_,rfl,_,rfl,v,CV,dvx,_,_,rfl,hv1,VC.cl,VC.nN,CN _ _,r,l,nl,ts,i,t,vs.map (·.name),rfl,hR,ht,hV.nm,?_⟩;obtain ⟨p,tt⟩:=t
   cases tt with
   | name b=>
    dsimp only;rw[List.length_map]
    by_cases hb:RESERVED.contains b=true
    ·rw[if_pos hb];rw[gD ht (show (!RESERVED.contains b)=false by rw[hb];rfl)] at q;exact Flt.to q aH.refl
    ·have hb':RESERVED.contains b=false:=by simpa using hb
     rw[if_neg hb]
     by_cases hm:vs.length=12
     ·rw[if_pos hm];rw[qG ht (show (!RESERVED.contains b)=true by rw[hb'];rfl) (by lia)] at q;exact λe od H' f k=>q e od H' f (k.mono k3)
     ·rw[if_neg hm];rw[qH ht hb' (by lia)] at q;have nm:(vs.map (·.name)).any (λv=>v==b)=(vs.any λv=>v.name==b):=by rw[List.any_map];rfl
      rw[nm]
      by_cases ha:(vs.any λv=>v.name==b)=true
      ·rw[if_pos ha] at q ⊢;exact λe od H' f k=>q e od H' f (k.mono k3)
      ·rw[if_neg ha];intro H1 hR1 k1;have hV1:=hV.keepR hr1 N.nc k1;refine ⟨nl,_,_,rfl,rfl,hV1.nm,?_,b,rfl,by show (!RESERVED.contains b)=true;rw[hb'];rfl,by lia,by simpa using ha,rfl,hR1.updL hV1.nm nln,hV1.pushN b,?_⟩
       ·show (nmV (vs.map (·.name))).length<sizeLine;unfold nmV;rw[List.length_map,List.length_map,sizeLine_eq];lia
       ·intro c o z nz;have nz1:c≠nl:=λy=>nz (by simp[y]);rw[aB nz1];exact k1 c o z λy=>nz (k3 c y)
   | num n=>rw[gD ht rfl] at q;exact Flt.to q aH.refl
   | sign n=>rw[gD ht rfl] at q;exact Flt.to q aH.refl
   | halt_=>rw[gD ht rfl] at q;exact Flt.to q aH.refl
  ·rintro σ1 H1 ⟨b,hb,hnm,hl12,hany,rfl,hR1,hV1,k1⟩;obtain ⟨p,tt⟩:=t;dsimp only at hb;subst hb
   have hb':RESERVED.contains b=false:=by
    have:(!RESERVED.contains b)=true:=hnm
    simpa using this
   rw[qH ht hb' hl12,if_neg (by rw[hany];exact Bool.false_ne_true)] at q;obtain ⟨t1,ht1⟩:=cX hE ht (by intro z;cases z);obtain ⟨dx1,hr2⟩:=hR1.rd;rw[fH ht1] at q;have cs:(":" : Str)=⟨#[58]⟩:=by decide +kernel
   refine ⟨λσ' H'=>t1.tok=.sign 58/\σ'=[some (.ref r),some (.ref v)]/\c7 CR CT H' r l ts (i+1+1)/\VAt CV H' v nl cl (vs.map (·.name)++[b]) (vs.map (·.chance))/\aH [r,nl,cl] H H',?_,?_⟩
   ·refine ⟨_,rfl,r,dx1,_,rfl,hr2,fB.2.2.2.2.2.2.1,r,l,ts,i+1,t1,58,by decide,by rw[cs];rfl,hR1,ht1,?_⟩;unfold dR
    by_cases h58:t1.tok=.sign 58
    ·rw[if_pos (decide_eq_true h58)]
     exact λa H' _ hR' kp=>⟨h58,rfl,hR',hV1.keepR hr2 N.nc kp,k1.trans (kp.mono k3)⟩
    ·rw[if_neg (by simp[h58])];rw[if_neg h58] at q;exact Flt.to q k1
   ·rintro σ2 H2 ⟨h58,rfl,hR2,hV2,k2⟩;rw[if_pos h58] at q;obtain ⟨t2,ht2⟩:=cX hE ht1 (by rw[h58];intro z;cases z);obtain ⟨dv2,hv2⟩:=hV2.ob;obtain ⟨as2,hc2,hp2⟩:=hV2.ch;obtain ⟨dx2,hr3⟩:=hR2.rd;refine ⟨_,rfl,v,CV,dv2,_,_,rfl,hv2,VC.cl,VC.nC,F4 _ _,.inl ⟨rfl,_,SqL.of hc2⟩,_,rfl,r,l,ts,i+1+1,t2,rfl,hR2,hE,hSm,ht2,?_⟩
    cases ec:takeChance (ts.drop (i+1+1)) with
    | error f=>
     have q:Flt C E [r,nl,cl] H f.code f.place:=by
      simp only[Except.bind,ec] at q;exact q
     exact λe od H' f' k=>q e od H' f' (k2.trans (k.mono k3))
    | ok x=>
     obtain ⟨c,l'⟩:=x;simp only[Except.bind,ec] at q;intro i' p' t' H3 e1 e2 hR3 hp3 np3 k3';have hV3:=hV2.keepR hr3 N.nc k3';have hc3:H3 cl=some (.lst (as2.map V.ref)):=k3' _ _ hc2 (by simpa using bI hc2 hr3 (by intro z;cases z));have hp3':Paired (λa (f:Frac)=>H3 a=some (.tup [.int f.num,.int f.den])) as2 (vs.map (·.chance)):=Paired.mapP hp2 λa f e=>k3' _ _ e (by simpa using bI e hr3 (by intro z;cases z));refine ⟨cl,_,_,rfl,rfl,hc3,?_,?_⟩
     ·have:=bB hp3'
      rw[List.length_map,this,List.length_map,sizeLine_eq];lia
     ·have hV4:=hV3.pushC hc3 hp3' hp3;refine q i' t' _ e1 e2 (hR3.updL hc3 nlc) (by rw[List.map_append,List.map_append];exact hV4) λb' o z nz=>?_;have nz1:b'≠cl:=λy=>nz (by simp[y]);rw[aB nz1];exact k3' b' o (k2 b' o z nz) λy=>nz (k3 b' y)
theorem sK {l l':Toks}{x:Nat×Int}(h:takeNum l=.ok (x,l')):l'.length<=l.length:=by
 unfold takeNum at h;split at h
 ·cases h;exact Nat.le_succ _
 ·cases h
theorem A3 {l l':Toks}{x:PName}(h:takeName l=.ok (x,l')):l'.length<=l.length:=by
 unfold takeName at h;split at h
 ·split at h
  ·cases h
  ·cases h;exact Nat.le_succ _
 ·cases h
theorem A5 {l l':Toks}{c:Nat}(h:takeSign c l=.ok l'):l'.length<=l.length:=by
 unfold takeSign take at h;split at h
 ·cases h;rw[List.length_drop];lia
 ·cases h
theorem C6 {l l':Toks}{d:Int}(h:eA l=.ok (d,l')):l'.length<=l.length:=by
 unfold eA at h;split at h
 ·cases e:takeNum (l.drop 1) with
  | error f=>rw[e] at h;cases h
  | ok x=>
   obtain ⟨⟨p,n⟩,l2⟩:=x;rw[e] at h;have h:(if n<1 then Except.error ⟨7,p⟩ else Except.ok (n,l2):Except Fault (Int×Toks))=.ok (d,l'):=h
   have:=sK e
   rw[List.length_drop] at this;split at h
   ·cases h
   ·cases h;lia
 ·cases h;exact Nat.le_refl _
theorem vK {l l':Toks}{x:Frac}(h:takeChance l=.ok (x,l')):l'.length<=l.length:=by
 rw[iK] at h
 cases e:takeNum l with
 | error f=>rw[e] at h;cases h
 | ok y=>
  obtain ⟨⟨p,n⟩,l2⟩:=y;rw[e] at h
  cases e2:eA l2 with
  | error f=>simp only[bind,Except.bind,e2] at h;cases h
  | ok z=>
   obtain ⟨d,l3⟩:=z;simp only[bind,Except.bind,e2] at h;have h1:=sK e;have h2:=C6 e2;split at h
   ·cases h
   ·cases h;lia
theorem C9 {vs:List Var}{l l':Toks}{x:Var}(h:cN vs l=.ok (x,l')):l'.length<=l.length:=by
 unfold cN at h;split at h
 ·cases h
 ·cases e:takeName l with
  | error f=>rw[e] at h;cases h
  | ok y=>
   obtain ⟨y,l2⟩:=y;rw[e] at h;simp only[bind,Except.bind] at h;have h1:=A3 e;split at h
   ·cases h
   ·cases e2:takeSign 58 l2 with
    | error f=>simp only[pure,Except.pure,e2] at h;cases h
    | ok l3=>
     simp only[pure,Except.pure,e2] at h;have h2:=A5 e2
     cases e3:takeChance l3 with
     | error f=>simp only[e3] at h;cases h
     | ok z=>
      obtain ⟨z,l4⟩:=z;simp only[e3] at h;have h3:=vK e3;cases h;lia
theorem EW {ts:Toks}{i:Nat}{t:PTok}{vs:List Var}{x:Var×Toks}(ht:ts[i]?=some t)(h:cN vs (ts.drop i)=.ok x):vs.length<12:=by
 by_cases hn:u6 t.tok=true
 ·by_cases h12:12<=vs.length
  ·rw[qG ht hn h12] at h;cases h
  ·lia
 ·rw[gD ht (by simpa using hn)] at h;cases h
def lF (n:Nat)(vs:List Var)(l:Toks):Except Fault (List Var):=
 if next .halt_ l=true then .ok vs else Except.bind (takeSign 44 l) λl=>Vaprbg.takeVars n vs l
theorem mU (n:Nat)(vs:List Var)(l:Toks):Vaprbg.takeVars (n+1) vs l=Except.bind (cN vs l) λx=>lF n (vs++[x.1]) x.2:=mV n vs l
theorem L6 {α:Type}{ts:List α}{i i':Nat}{t':α}(h:(ts.drop i').length<=(ts.drop i).length)(h':ts[i']?=some t'):i<=i':=by
 obtain ⟨q,_⟩:=List.getElem?_eq_some_iff.mp h';rw[List.length_drop,List.length_drop] at h;lia
structure R9 (P:Program)(w:World)(K:PySem.W.Frag)(mg:Str->Option Value)(base:Heap)(C CR CT CV:Addr):Prop where
 rv:KF K mg C CR CT CV
 en:GI mg "END" 4
 ini:∃ f fd,xT K CR f fd
 toks:∃ g gd,Def K mg "tokens_of" eQ ["text"] g gd/\aN P w K mg base (CXF P w C) 5 g gd ["text"] (rQ K C CT)
 rvar:∃ f fd,Def K mg "read_variable" BY ["reader","variables"] f fd
inductive vH (K:PySem.W.Frag) (C CV:Addr) (us:List V) (H:Hp) (Q:VK) (E:XK):Prop
 | mk:∀ (a:Addr) (bs:List UInt8),us=[.ref a]->TxL K H a bs->bs.length<=8192->(match Vaprbg.readVars bs with
  | .error f=>Flt C E [] H f.code f.place
  | .ok vs=>∀ (v nl cl:Addr) (H':Hp),VAt CV H' v nl cl (vs.map (·.name)) (vs.map (·.chance))->H v=none->H nl=none->H cl=none->vs.length<=12->aH [] H H'->Q (.ref v) H')->vH K C CV us H Q E
theorem v5:aO ["text","reader","variables"] ["text"] (aI pY):=by walk_at "s"
theorem aH.fresh {S S':List Addr}{H H1:Hp}(k:aH (S'++S) H H1)(h:∀ b∈S',H b=Option.none):aH S H H1:=λc o z nc=>k c o z λy=>by
 rcases List.mem_append.mp y with y|y
 ·rw[h c y] at z;cases z
 ·exact nc y
theorem c7.keeps {CR CT r l:Addr}{H H':Hp}{ts:Toks}{i:Nat}(h:c7 CR CT H r l ts i)(k:aH [] H H'):c7 CR CT H' r l ts i:=by
 obtain ⟨⟨dx,h1⟩,as,h2,h3⟩:=h;exact ⟨⟨dx,k _ _ h1 (by simp)⟩,as,k _ _ h2 (by simp),Paired.mapP h3 λ_ _ z=>z.keeps k⟩
def tK (C CV:Addr)(H:Hp)(Q:VK)(E:XK)(r v nl cl:Addr)(e:Except Fault (List Var)):Prop:=match e with
 | .error f=>Flt C E [r,nl,cl] H f.code f.place
 | .ok vs=>∀ H':Hp,VAt CV H' v nl cl (vs.map (·.name)) (vs.map (·.chance))->vs.length<=12->aH [r,nl,cl] H H'->Q (.ref v) H'
theorem JC {C CR CT CV f:Addr}{fd:FuncData}(N:R9 P w K mg base C CR CT CV)(F:Def K mg "variables_of" pY ["text"] f fd):aN P w K mg base (CXF P w C) 8 f fd ["text"] (vH K C CV):=by
 obtain ⟨g1,d1,G1⟩:=N.ini;obtain ⟨g2,d2,G2,O2⟩:=N.toks;obtain ⟨g3,d3,G3⟩:=N.rvar;obtain ⟨g4,d4,G4⟩:=N.rv.tk.R.tSign;obtain ⟨g5,d5,G5⟩:=N.rv.tk.R.isEnd;obtain ⟨fv,dv,VC⟩:=N.rv.vc;obtain ⟨fT,td,TK⟩:=N.rv.tk.TK;have O1:aN P w K mg base (CXF P w C) 6 g1 d1 ["self","text"] (t6 K C CR CT):=BF N.rv.tk.nc N.rv.tk.R G1 G2 O2;have O3:aN P w K mg base (CXF P w C) 7 g3 d3 ["reader","variables"] (zT C CR CT CV):=PQ N.rv G3;have O4:aN P w K mg base (CXF P w C) 4 g4 d4 ["self","sign"] (mO C CR CT):=pI N.rv.tk G4;have O5:aN P w K mg base CX0 2 g5 d5 ["self"] (ES CR CT):=PP N.en N.rv.tk.R TK G5;have O6:aN P w K mg base CX0 1 fv dv ["self"] (zX CV):=ME VC;have RC:=N.rv.tk.R;refine F.fn.okX v5 (λus H Q E h=>?_) (λcdv A outer s H us Q E hr h=>?_)
 ·walk_at "l"
 ·obtain ⟨a,bs,rfl,hS,h8,q⟩:=h
  refine ⟨_,aM (aQ (i:=1) v5.nd rfl (Or.inl rfl) (cD G1.mak O1 hr (by rfl) RC.at_ G1.bd .nil cO (a9 (pv 0) aC)))
   (aM (aQ (i:=2) v5.nd rfl (Or.inl rfl) (BP VC.mak O6 (hr.mono (by decide)) (by rfl) VC.at_ VC.bd .nil aR))
   (aM (bE (aS O3 hr (by rfl) G3.at_ G3.fn.kp G3.bd .nil cO (a9 (pv 1) (a9 (pv 2) aC))))
   (aM (eC ML (gJ (cE (c6 (pv 1) RC.cl G5.me O5 (hr.mono (by decide)) G5.bd .nil aR)))
    (aM (bE (bA (pv 1) RC.cl G4.me O4 (hr.mono (by decide)) G4.bd .nil cO (a9 dU aC)))
    (aE (bE (aS O3 hr (by rfl) G3.at_ G3.fn.kp G3.bd .nil cO (a9 (pv 1) (a9 (pv 2) aC)))))))
   (aE (aP (pv 2)))))),?_⟩
  have k3:∀ (r nl cl b:Addr),b∈[r]->b∈[r,nl,cl]:=λr nl cl b hb=>by simp at hb;simp[hb]
  refine ⟨λσ' H'=>∃ (ts:Toks) (r l:Addr),tokens bs=.ok ts/\σ'=[some (.ref a),some (.ref r),none]/\c7 CR CT H' r l ts 0/\H r=none/\aH [] H H',?_,?_⟩
  ·refine ⟨_,rfl,λr dr hr0 hd0 ne=>?_⟩;have kk:aH [] H (upd (upd H dr (.own r)) r (.ins CR dr [])):=λc o z _=>by rw[aB (aD z hr0),aB (aD z hd0)];exact z
   refine ⟨r,a,dr,bs,rfl,aA,kk.seq (by simp) hS,h8,?_⟩;unfold Vaprbg.readVars at q
   cases ht:tokens bs with
   | error f=>
    rw[ht] at q;exact Flt.keep q kk
   | ok ts=>
    intro l H1 hR1 k1;exact ⟨rfl,ts,r,l,rfl,rfl,hR1,hr0,λc o z _=>k1 c o (kk c o z (by simp)) (by simpa using aD z hr0)⟩
  ·rintro σ1 H1 ⟨ts,r,l,ht,rfl,hR1,hr0,k1⟩;obtain ⟨dx1,hr1⟩:=hR1.rd;obtain ⟨as1,hl1,hp1⟩:=hR1.tk;have hE:=qI ht;have hSm:=qJ ht;refine ⟨λσ' H'=>∃ (v nl cl:Addr),σ'=[some (.ref a),some (.ref r),some (.ref v)]/\c7 CR CT H' r l ts 0/\VAt CV H' v nl cl [] []/\l≠nl/\l≠cl/\H v=none/\H nl=none/\H cl=none/\aH [] H H',?_,?_⟩
   ·refine λv dv hv0 hd0 ne=>⟨v,dv,rfl,aA,λnl cl H2 hV2 n1 n2 k2=>?_⟩
    have kk:aH [] H1 (upd (upd H1 dv (.own v)) v (.ins CV dv [])):=λc o z _=>by rw[aB (aD z hv0),aB (aD z hd0)];exact z
    have k12:aH [] H1 H2:=λc o z _=>k2 c o (kk c o z (by simp)) (by simpa using aD z hv0);have m1:H1 nl=none:=kk.none n1 (by simp);have m2:H1 cl=none:=kk.none n2 (by simp);exact ⟨rfl,v,nl,cl,rfl,hR1.keeps k12,hV2,aD hl1 m1,aD hl1 m2,k1.none hv0 (by simp),k1.none m1 (by simp),k1.none m2 (by simp),k1.trans k12⟩
   ·rintro σ2 H2 ⟨v,nl,cl,rfl,hR2,hV2,nln,nlc,fv0,fn0,fc0,k2⟩
    have q:tK C CV H2 Q E r v nl cl (Vaprbg.takeVars (ts.length+1) [] (ts.drop 0)):=by
     have e:Vaprbg.readVars bs=Vaprbg.takeVars (ts.length+1) [] (ts.drop 0):=by
      unfold Vaprbg.readVars;rw[ht];rfl
     rw[e] at q;have fr:∀ H',aH [r,nl,cl] H2 H'->aH [] H H':=λH' k=>aH.fresh (S':=[r,nl,cl]) ((k2.mono (by simp)).trans k) (by simp[hr0,fn0,fc0]);unfold tK
     cases ev:Vaprbg.takeVars (ts.length+1) [] (ts.drop 0) with
     | error f=>
      rw[ev] at q;exact λe od H' f k=>q e od H' f (fr H' k)
     | ok vs=>
      rw[ev] at q;exact λH' hV' h12 k=>q v nl cl H' hV' fv0 fn0 fc0 h12 (fr H' k)
    rw[mU] at q
    have e0:∃ t0,ts[0]?=some t0:=by
     obtain ⟨i,p,rfl,_⟩:=hE
     cases i with
     | nil=>exact ⟨_,rfl⟩
     | cons x i=>exact ⟨_,rfl⟩
    obtain ⟨t0,ht0⟩:=e0
    let Iv:L2.St->Hp->Nat->Prop:=λσ' H' i=>∃ (n:Nat) (t:PTok) (vs:List Var),σ'=[some (.ref a),some (.ref r),some (.ref v)]/\c7 CR CT H' r l ts i/\ts[i]?=some t/\VAt CV H' v nl cl (vs.map (·.name)) (vs.map (·.chance))/\vs.length<=12/\ts.length<=n+i/\aH [r,nl,cl] H2 H'/\tK C CV H2 Q E r v nl cl (lF n vs (ts.drop i))
    have step:∀ (i n:Nat) (t:PTok) (vs:List Var) (H':Hp) (R:Hp->Prop),c7 CR CT H' r l ts i->ts[i]?=some t->VAt CV H' v nl cl (vs.map (·.name)) (vs.map (·.chance))->vs.length<=12->ts.length<=n+i->aH [r,nl,cl] H2 H'->
      tK C CV H2 Q E r v nl cl (Except.bind (cN vs (ts.drop i)) λx=>lF n (vs++[x.1]) x.2)->
      (∀ (i':Nat) (H'':Hp),i<=i'->i'<ts.length->Iv [some (.ref a),some (.ref r),some (.ref v)] H'' i'->R H'')->zT C CR CT CV [.ref r,.ref v] H' (λ_ H''=>R H'') E:=by
     intro i n t vs H' R hR' ht' hV' h12 hn k' q' go;refine ⟨r,l,v,nl,cl,ts,i,t,vs,rfl,hR',hE,hSm,ht',hV',nln,nlc,h12,?_⟩
     cases ev:cN vs (ts.drop i) with
     | error f=>
      rw[ev] at q';exact Flt.keep q' k'
     | ok x=>
      obtain ⟨x,l'⟩:=x;rw[ev] at q';intro i' t' H'' e1 e2 hR'' hV'' k'';subst e1;have le:=L6 (C9 ev) e2;obtain ⟨lt,_⟩:=List.getElem?_eq_some_iff.mp e2;have l12:=EW ht' ev;exact go i' H'' le lt ⟨n,t',vs++[x],rfl,hR'',e2,hV'',by rw[List.length_append,List.length_singleton];lia,by lia,k'.trans k'',q'⟩
    refine ⟨λσ' H'=>∃ i,Iv σ' H' i,?_,?_⟩
    ·refine ⟨_,rfl,_,rfl,step 0 ts.length t0 [] H2 _ hR2 ht0 hV2 (Nat.zero_le _) (by lia) aH.refl q λi' H'' _ _ z=>⟨i',z⟩⟩
    ·rintro σ3 H3 ⟨i0,hI0⟩;refine ⟨λσ' H'=>∃ i,Iv σ' H' i/\next .halt_ (ts.drop i)=true,?_,?_⟩
     ·refine ⟨λm σ' H'=>∃ i,Iv σ' H' i/\m=ts.length-i,⟨_,i0,hI0,rfl⟩,?_⟩;rintro m σ' H' ⟨i,⟨n,t,vs,rfl,hR',ht',hV',h12,hn,k',q'⟩,rfl⟩;obtain ⟨dx',hr'⟩:=hR'.rd;obtain ⟨lt,_⟩:=List.getElem?_eq_some_iff.mp ht';refine ⟨_,rfl,r,dx',_,rfl,hr',fB.2.2.2.2.1,r,l,ts,i,t,rfl,hR',ht',_,rfl,?_⟩;dsimp only
      by_cases hh:t.tok=.halt_
      ·rw[if_neg (by simp[hh])];exact ⟨i,⟨n,t,vs,rfl,hR',ht',hV',h12,hn,k',q'⟩,by rw[iV ht'];simp[hh]⟩
      ·rw[if_pos (by simp[hh])];refine ⟨λσ2 H2=>∃ m',m'<ts.length-i/\∃ i,Iv σ2 H2 i/\m'=ts.length-i,λ_ _ z=>z,?_⟩;unfold lF at q';rw[iV ht',if_neg (by simp[hh]),fH ht'] at q';obtain ⟨t1,ht1⟩:=cX hE ht' hh
       obtain ⟨n',rfl⟩:∃ n',n=n'+1:=⟨n-1,by lia⟩
       have cs:("," : Str)=⟨#[44]⟩:=by decide +kernel
       refine ⟨λσ' H''=>t.tok=.sign 44/\σ'=[some (.ref a),some (.ref r),some (.ref v)]/\c7 CR CT H'' r l ts (i+1)/\VAt CV H'' v nl cl (vs.map (·.name)) (vs.map (·.chance))/\aH [r,nl,cl] H2 H'',?_,?_⟩
       ·refine ⟨_,rfl,r,dx',_,rfl,hr',fB.2.2.2.2.2.2.1,r,l,ts,i,t,44,by decide,by rw[cs];rfl,hR',ht',?_⟩;unfold dR
        by_cases h44:t.tok=.sign 44
        ·rw[if_pos (decide_eq_true h44)]
         exact λb H'' _ hR'' kp=>⟨h44,rfl,hR'',hV'.keepR hr' N.rv.nc kp,k'.trans (kp.mono (k3 r nl cl))⟩
        ·rw[if_neg (by simp[h44])];rw[if_neg h44] at q';exact Flt.to q' k'
       ·rintro σ4 H4 ⟨h44,rfl,hR4,hV4,k4⟩;rw[if_pos h44] at q';have q':tK C CV H2 Q E r v nl cl (Vaprbg.takeVars (n'+1) vs (ts.drop (i+1))):=q';rw[mU] at q';refine ⟨_,rfl,_,rfl,step (i+1) n' t1 vs H4 _ hR4 ht1 hV4 h12 (by lia) k4 q' λi' H'' le lt z=>⟨_,?_,i',z,rfl⟩⟩;lia
     ·rintro σ3 H3 ⟨i,⟨n,t,vs,rfl,hR',ht',hV',h12,hn,k',q'⟩,hh⟩;unfold lF at q';rw[if_pos hh] at q';exact ⟨_,rfl,q' H3 hV' h12 k'⟩
theorem iG (x:Int):Builtin.bitNot (Builtin.bitNot x)=x:=by
 unfold Builtin.bitNot;lia
theorem jJ (x y:Nat):Builtin.bitAnd x y=((x &&& y:Nat):Int):=by
 unfold Builtin.bitAnd;have h1:decide (0<=(x:Int))=true:=decide_eq_true (by lia);have h2:decide (0<=(y:Int))=true:=decide_eq_true (by lia);rw[h1,h2];rfl
theorem m4 (x y:Nat):Builtin.bitOr x y=((x ||| y:Nat):Int):=by
 unfold Builtin.bitOr Builtin.bitAnd;have h1:decide (0<=Builtin.bitNot (x:Int))=false:=by unfold Builtin.bitNot;exact decide_eq_false (by lia)
 have h2:decide (0<=Builtin.bitNot (y:Int))=false:=by unfold Builtin.bitNot;exact decide_eq_false (by lia)
 rw[h1,h2];dsimp only;rw[iG,iG,iG];rfl
theorem E1 (x:Nat):∀ y,x ||| y=(x ^^^ y)+(x &&& y):=by
 induction x using Nat.strongRecOn with
 | _ x ih=>
  intro y
  by_cases h0:x=0
  ·subst h0;simp
  ·have h:=ih (x / 2) (by lia) (y / 2);rw[← Nat.or_div_two,← Nat.xor_div_two,← Nat.and_div_two] at h;have a:=@Nat.or_mod_two_eq_one x y;have b:=@Nat.xor_mod_two_eq_one x y;have c:=@Nat.and_mod_two_eq_one x y;lia
theorem hG (x y:Nat):Builtin.bitXor x y=((x ^^^ y:Nat):Int):=by
 unfold Builtin.bitXor;rw[jJ,m4,E1];lia
def UR (i j:Int):Prop:=0<=j/\j<=100000/\Builtin.Int.intBits i<=100000
theorem gT {X:Cx}:OpR X (binaryOp .LShift) (rI UR λi j=>.int (i*2^j.toNat)):=opI λi j _ _ _ _ _ hc q=>by
 have h:=hc;unfold UR at h;exact lshift_int hc.1 (Int.le_trans (show (Builtin.Int.intBits i:Int)+j<=200000 by lia) (by decide)) q
theorem iM {x k:Nat}(h:x<2^k)(hk:k<=100000):Builtin.Int.intBits (x:Int)<=100000:=Nat.le_trans (intBits_le_iff.mpr (by rw[Int.natAbs_natCast];exact h)) hk
theorem gW (x k:Nat):((x:Int)*2^((k:Int)).toNat)=((x*2^k:Nat):Int):=by
 rw[Int.toNat_natCast]
 norm_cast
abbrev pX:Stmt:=top 62
def vt (n i:Nat):Nat:=tab n λas=>as[i]?.getD false
inductive vG (vs:List V) (H:Hp) (Q:VK) (E:XK):Prop
 | mk:∀ i n:Nat,vs=[.int i,.int n]->i<n->n<=12->Q (.int (vt n i:Nat)) H->vG vs H Q E
theorem j6:aO ["number","how_many","half","width","table"] ["number","how_many"] (aI pX):=by walk_at "s"
theorem i6 {k:Nat}(h:k<=12):2^k<=4096:=Nat.pow_le_pow_right (n:=2) (by decide) h
theorem JD {f:Addr}{fd:FuncData}(F:Def K mg "variable_table" pX ["number","how_many"] f fd):aN P w K mg base CX0 1 f fd ["number","how_many"] vG:=by
 refine F.fn.ok j6 (λvs H Q E h=>?_) (λcdv A outer s H vs Q E hr h=>?_)
 ·walk_at "l"
 ·obtain ⟨i,n,rfl,hi,hn,q⟩:=h
  refine ⟨_,aG (aQ (i:=2) j6.nd rfl (Or.inl rfl) (b7 gT aF (b7 gG (b7 gG (pv 1) aF) (pv 0))))
   (aG (aQ (i:=3) j6.nd rfl (Or.inl rfl) (b7 DZ aF (pv 2)))
   (aG (aQ (i:=4) j6.nd rfl (Or.inl rfl) (b7 gT (b7 gG (b7 gT aF (pv 2)) aF) (pv 2)))
   (aM (eC PassesOwn.never (aT eZ (pv 3) (b7 gT aF (pv 1)) (aY _))
    (aG (aQ (i:=4) j6.nd rfl (Or.inl rfl) (b7 MJ (pv 4) (b7 gT (pv 4) (pv 3)))) (aE (aQ (i:=3) j6.nd rfl (Or.inl rfl) (b7 DZ aF (pv 3))))))
   (aE (aP (pv 4)))))),?_⟩
  k_caughtN0
  obtain ⟨m,rfl⟩:∃ m,n=m+1+i:=⟨n-1-i,by lia⟩
  have hm:2^m<=4096:=i6 (by lia);have e1:(((m+1+i:Nat):Int)-1-(i:Int))=((m:Nat):Int):=by lia
  have e2:(1:Int)*2^((m:Nat):Int).toNat=((2^m:Nat):Int):=by
   have:=gW 1 m
   rw[Nat.one_mul] at this;exact this
  have e3:(1:Int)*2^((2^m:Nat):Int).toNat=((pw m:Nat):Int):=by
   have:=gW 1 (2^m)
   rw[Nat.one_mul] at this;exact this
  have e4:((pw m:Nat):Int)-1=((pw m-1:Nat):Int):=by have:=lE m;lia
  have b1:Builtin.Int.intBits 1<=100000:=iM (x:=1) (k:=1) (by decide) (by decide);rw[e1,e2,e3,e4,gW];refine ⟨⟨Int.natCast_nonneg _,by lia,b1⟩,.inl (by decide),⟨Int.natCast_nonneg _,by lia,b1⟩,⟨Int.natCast_nonneg _,by lia,iM (k:=2^m) (by have:=lE m;rw[← xE];lia) (by lia)⟩,?_⟩;refine ⟨λσ' H'=>σ'=[some (.int i),some (.int (m+1+i:Nat)),some (.int (2^m:Nat)),some (.int (2^(m+1+i):Nat)),some (.int (vt (m+1+i) i:Nat))]/\H'=H,?_,?_⟩
  ·refine ⟨λx σ' H'=>∃ j,j<=i/\x=i-j/\σ'=[some (.int i),some (.int (m+1+i:Nat)),some (.int (2^m:Nat)),some (.int (2^(m+1+j):Nat)),some (.int (vt (m+1+j) j:Nat))]/\H'=H,⟨_,0,Nat.zero_le _,rfl,?_,rfl⟩,?_⟩
   ·unfold vt;rw[NZ];have a1:(2*((2^m:Nat):Int))=((2^(m+1+0):Nat):Int):=by rw[Nat.add_zero,Nat.pow_succ];lia
    rw[a1,xE,Nat.mul_comm]
   ·rintro x σ' H' ⟨j,hj,rfl,rfl,rfl⟩
    have e5:(1:Int)*2^((m+1+i:Nat):Int).toNat=((2^(m+1+i):Nat):Int):=by
     have:=gW 1 (m+1+i)
     rw[Nat.one_mul] at this;exact this
    k_caughtN0;rw[e5];refine ⟨⟨by lia,by lia,b1⟩,?_⟩;have hk:2^(m+1+j)<=4096:=i6 (by lia)
    by_cases hlt:j<i
    ·have:2^(m+1+j)<2^(m+1+i):=Nat.pow_lt_pow_right (by decide) (by lia)
     rw[if_pos (decide_eq_true (by lia))];refine ⟨λσ2 H2=>∃ m',m'<i-j/\∃ j,j<=i/\m'=i-j/\σ2=[some (.int i),some (.int (m+1+i:Nat)),some (.int (2^m:Nat)),some (.int (2^(m+1+j):Nat)),some (.int (vt (m+1+j) j:Nat))]/\H2=H',λ_ _ z=>z,?_⟩;have tl:vt (m+1+j) j<2^2^(m+1+j):=rS _ _;refine ⟨⟨Int.natCast_nonneg _,by lia,iM tl (by lia)⟩,.inl (by decide),_,?_,j+1,by lia,rfl,?_,rfl⟩
     ·lia
     ·rw[gW,m4,xA tl];have a1:(2*((2^(m+1+j):Nat):Int))=((2^(m+1+(j+1)):Nat):Int):=by rw[← Nat.add_assoc,Nat.pow_succ];lia
      have a2:vt (m+1+(j+1)) (j+1)=vt (m+1+j) j+2^2^(m+1+j)*vt (m+1+j) j:=A0 (m+1+j) j;rw[a1,a2]
    ·have:j=i:=by lia
     subst this;rw[if_neg (by simp only[decide_eq_true_eq];lia)];exact ⟨rfl,rfl⟩
  ·rintro σ1 H1 ⟨rfl,rfl⟩;exact ⟨_,rfl,q⟩
abbrev ED:Stmt:=eW (top 61) 0
def scF (y:Int)(d:Addr):List (Str×V):=[("yes",.int y),("tables",.ref d)]
theorem NE (y:Int)(d:Addr):(scF y d).lookup ("yes" : Str)=some (.int y):=rfl
theorem rL (y:Int)(d:Addr):(scF y d).lookup ("tables" : Str)=some (.ref d):=by with_unfolding_all rfl
def oN (n:Nat)(nms:List Bytes)(kvs:List (Key×V)):Prop:=∀ b:Bytes,dO kvs (.inr (cB b))=(nms.findIdx? (λx=>x==b)).map λi=>V.int (vt n i:Nat)
structure CZ (CS:Addr)(H:Hp)(s:Addr)(nms:List Bytes):Prop where
 ob:∃ dx d kvs,H s=some (.ins CS dx (scF ((pw nms.length-1:Nat):Int) d))/\H d=some (.dK kvs)/\oN nms.length nms kvs
theorem CZ.keepR {CS CR s r dr:Addr}{H H':Hp}{nms:List Bytes}{fs:List (Str×V)}(h:CZ CS H s nms)(hr:H r=some (.ins CR dr fs))(nc:CS≠CR)(k:aH [r] H H'):CZ CS H' s nms:=by
 obtain ⟨dx,d,kvs,h1,h2,h3⟩:=h;exact ⟨dx,d,kvs,k _ _ h1 (by simpa using bI h1 hr (by intro q;injection q with q;exact nc q)),k _ _ h2 (by simpa using bI h2 hr (by intro z;cases z)),h3⟩
structure KJ (K:PySem.W.Frag)(mg:Str->Option Value)(CS f:Addr)(fd:FuncData):Prop where
 cl:Cls K CS
 mak:Mk K CS f
 nY:aZ K CS "yes"
 nT:aZ K CS "tables"
 at_:mg "Scope" = some (.ref CS)
 fn:Fun K "__init__" "Scope.__init__" ED f fd
 bd:cZ K fd ["self","names"] []
theorem K0 {n i:Nat}{nms:List Bytes}{b:Bytes}{kvs:List (Key×V)}(h:oN n (nms.take i) kvs)(hb:nms[i]?=some b)(nd:nms.Nodup):oN n (nms.take (i+1)) (jY kvs (.inr (cB b)) (.int (vt n i:Nat))):=by
 intro c;obtain ⟨hi,e⟩:=List.getElem?_eq_some_iff.mp hb;have et:nms.take (i+1)=nms.take i++[b]:=by rw[List.take_succ,hb];rfl
 rw[qL,h c,et,List.findIdx?_append];have li:(nms.take i).length=i:=by rw[List.length_take];lia
 have nb:b∉nms.take i:=by
  have:=nd.sublist (List.take_sublist (i+1) nms)
  rw[et,List.nodup_append] at this;intro z;exact this.2.2 b z b (by simp) rfl
 by_cases hc:c=b
 ·subst hc;rw[if_pos rfl]
  have:(nms.take i).findIdx? (λx=>x==c)=none:=by
   rw[List.findIdx?_eq_none_iff];intro x hx;rw[beq_eq_false_iff_ne];intro z;subst z;exact nb hx
  rw[this,li];simp[List.findIdx?_cons]
 ·rw[if_neg (by intro z;injection z with z;exact hc (lV z))]
  have:([b]:List Bytes).findIdx? (λx=>x==c)=none:=by
   rw[List.findIdx?_eq_none_iff];intro x hx;rw[beq_eq_false_iff_ne];intro z;simp at hx;exact hc (by rw[← z,hx])
  rw[this];cases (nms.take i).findIdx? (λx=>x==c)<;>rfl
theorem kI {k:Nat}{A:Around}(r:cI k A):A.units+1<cLine:=by have:=r.units;lia
structure KK (K:PySem.W.Frag)(mg:Str->Option Value):Prop where
 len:mg "len" = none
 enu:mg "enumerate" = none
 vt:∃ f fd,Def K mg "variable_table" pX ["number","how_many"] f fd
inductive zU (CS:Addr) (vs:List V) (H:Hp) (Q:VK) (E:XK):Prop
 | mk:∀ (s nl dx:Addr) (nms:List Bytes),vs=[.ref s,.ref nl]->H s=some (.ins CS dx [])->H nl=some (.lst (nmV nms))->nms.Nodup->nms.length<=12->(∀ H':Hp,CZ CS H' s nms->aH [s] H H'->Q .non H')->zU CS vs H Q E
theorem zF:aO ["self","names","number","name"] ["self","names"] (aI ED):=by walk_at "s"
theorem M7 {CS f:Addr}{fd:FuncData}(T:KJ K mg CS f fd)(N:KK K mg):aN P w K mg base CX0 2 f fd ["self","names"] (zU CS):=by
 obtain ⟨g,gd,G⟩:=N.vt;have O:aN P w K mg base CX0 1 g gd ["number","how_many"] vG:=JD G;refine T.fn.ok zF (λvs H Q E h=>?_) (λcdv A outer s H vs Q E hr h=>?_)
 ·walk_at "l"
 ·obtain ⟨s,nl,dx,nms,rfl,hs,hn,nd,h12,q⟩:=h
  refine ⟨_,aM (bY (pv 0) (b7 gG (b7 gT aF (b7 gT aF (b9 aU (by rfl) N.len PySem.boot_len (a9 (pv 1) aC)))) aF) rfl)
   (aM (bY (pv 0) MN rfl)
   (aE (jX PassesOwn.never rfl (Q4 (by rfl) N.enu (a9 (pv 1) aC)) (TF rfl (BQ (dQ (i:=2) zF.nd rfl (Or.inl rfl)) (BQ (dQ (i:=3) zF.nd rfl (Or.inl rfl)) Q3)))
    (aE (yT (kI hr) (aJ (pv 0) rfl) (pv 3) (aS O hr (by rfl) G.at_ G.fn.kp G.bd .nil aR (a9 (pv 2) (a9 (b9 aU (by rfl) N.len PySem.boot_len (a9 (pv 1) aC)) aC))) rfl))))),?_⟩
  have hl:(nmV nms).length=nms.length:=by unfold nmV;rw[List.length_map]
  have nns:nl≠s:=bI hn hs (by intro z;cases z);have h2:2^nms.length<=4096:=i6 h12;have b1:Builtin.Int.intBits 1<=100000:=iM (x:=1) (k:=1) (by decide) (by decide)
  have e2:(1:Int)*2^((nms.length:Nat):Int).toNat=((2^nms.length:Nat):Int):=by
   have:=gW 1 nms.length
   rw[Nat.one_mul] at this;exact this
  have e3:(1:Int)*2^((2^nms.length:Nat):Int).toNat=((pw nms.length:Nat):Int):=by
   have:=gW 1 (2^nms.length)
   rw[Nat.one_mul] at this;exact this
  have e4:((pw nms.length:Nat):Int)-1=((pw nms.length-1:Nat):Int):=by have:=lE nms.length;lia
  refine ⟨λσ' H'=>σ'=[some (.ref s),some (.ref nl),none,none]/\H'=upd H s (.ins CS dx [("yes",.int (pw nms.length-1:Nat))]),?_,?_⟩
  ·refine ⟨_,rfl,nl,_,rfl,.inl (SqL.of hn),?_⟩;rw[hl];refine ⟨1,_,rfl,rfl,⟨by lia,by lia,b1⟩,?_⟩;dsimp only;rw[e2];refine ⟨1,_,rfl,rfl,⟨Int.natCast_nonneg _,by lia,b1⟩,?_⟩;rw[e3];refine ⟨_,_,rfl,rfl,?_⟩;rw[e4];exact ⟨_,rfl,s,CS,dx,_,rfl,hs,T.cl,T.nY,by show 0<1000;decide,rfl,rfl⟩
  ·rintro σ1 H1 ⟨rfl,rfl⟩;refine ⟨λσ' H'=>∃ d,σ'=[some (.ref s),some (.ref nl),none,none]/\H' s=some (.ins CS dx (scF (pw nms.length-1:Nat) d))/\H' d=some (.dK [])/\H d=none/\aH [s] H H',?_,?_⟩
   ·intro d hd;have nsd:s≠d:=λz=>by rw[← z,aA] at hd;cases hd
    have hd0:H d=none:=by rw[aB (Ne.symm nsd)] at hd;exact hd
    refine ⟨_,rfl,s,CS,dx,[("yes",.int (pw nms.length-1:Nat))],rfl,by rw[aB nsd,aA],T.cl,T.nT,by show 1<1000;decide,d,rfl,aA.trans (by with_unfolding_all rfl),by rw[aB (Ne.symm nsd),aA],hd0,λb o z nb=>?_⟩;have nb':b≠s:=by simpa using nb
    rw[aB nb',aB (aD z hd0),aB nb'];exact z
   ·rintro σ2 H2 ⟨d,rfl,hs2,hd2,hd0,k2⟩;have nds:d≠s:=bI hd2 hs2 (by intro z;cases z);have hn2:H2 nl=some (.lst (nmV nms)):=k2 _ _ hn (by simpa using nns);refine ⟨_,rfl,nl,_,rfl,SqL.of hn2,λi m σ' H'=>∃ a b kvs,σ'=[some (.ref s),some (.ref nl),a,b]/\i<=nms.length/\m=nms.length-i/\H' s=some (.ins CS dx (scF (pw nms.length-1:Nat) d))/\H' d=some (.dK kvs)/\kvs.length<=i/\oN nms.length (nms.take i) kvs/\aH [s] H H',⟨_,none,none,[],rfl,Nat.zero_le _,rfl,hs2,hd2,Nat.zero_le _,λb=>rfl,k2⟩,?_⟩;rintro i m σ' H' ⟨a,b,kvs,rfl,hi,rfl,hs3,hd3,hkl,htb,k3⟩;have hn3:H' nl=some (.lst (nmV nms)):=k3 _ _ hn (by simpa using nns)
    by_cases hlt:i<nms.length
    ·obtain ⟨c,hc⟩:∃ c,nms[i]?=some c:=⟨_,List.getElem?_eq_getElem hlt⟩
     have hc':(nmV nms)[i]?=some (.str (cB c)):=by unfold nmV;rw[List.getElem?_map,hc];rfl
     refine .inr ⟨⟨_,_,SqL.of hn3,hc'⟩,λσ2 H2=>∃ m',m'<nms.length-i/\∃ a b kvs,σ2=[some (.ref s),some (.ref nl),a,b]/\i+1<=nms.length/\m'=nms.length-(i+1)/\H2 s=some (.ins CS dx (scF (pw nms.length-1:Nat) d))/\H2 d=some (.dK kvs)/\kvs.length<=i+1/\oN nms.length (nms.take (i+1)) kvs/\aH [s] H H2,λ_ _ z=>z,?_⟩;rintro _ _ ⟨T1,x,rfl,hT,rfl,hx⟩
     have ex:x=.str (cB c):=by
      have:=hx _ (SqL.of hn3)
      rw[hc'] at this;exact (Option.some.inj this).symm
     subst ex;have nT:∀ x o,H' x=some o->x≠T1:=λx o z=>aD z hT;have hn4:(upd H' T1 (.tup [.int (i:Nat),.str (cB c)])) nl=some (.lst (nmV nms)):=by rw[aB (nT _ _ hn3)];exact hn3
     have hs4:(upd H' T1 (.tup [.int (i:Nat),.str (cB c)])) s=some (.ins CS dx (scF (pw nms.length-1:Nat) d)):=by rw[aB (nT _ _ hs3)];exact hs3
     have hd4:(upd H' T1 (.tup [.int (i:Nat),.str (cB c)])) d=some (.dK kvs):=by rw[aB (nT _ _ hd3)];exact hd3
     refine ⟨T1,_,rfl,SqT.of aA,rfl,_,_,rfl,_,_,rfl,rfl,?_⟩;refine ⟨_,rfl,_,rfl,nl,_,rfl,.inl (SqL.of hn4),i,nms.length,by rw[hl];rfl,hlt,h12,?_⟩;refine ⟨_,rfl,s,CS,dx,_,_,rfl,hs4,T.cl,T.nT,rL _ _,_,rfl,d,_,rfl,xN.k (k:=.inr (cB c)) hd4 (by rw[sizeLine_eq];lia),_,?_,_,_,_,rfl,hlt,rfl,by rw[aB (Ne.symm nds)];exact hs4,aA,?_,K0 htb hc nd,λb o z nb=>?_⟩
     ·lia
     ·have:=fX kvs (.inr (cB c)) (.int (vt nms.length i:Nat))
      lia
     ·have z3:=k3 b o z nb;rw[aB (aD z hd0),aB (nT _ _ z3)];exact z3
    ·have:i=nms.length:=by lia
     subst this;rw[List.take_length] at htb;exact .inl ⟨⟨_,SqL.of hn3,by lia⟩,q H' ⟨dx,d,kvs,hs3,hd3,htb⟩ k3⟩
abbrev lI:Stmt:=top 63
theorem weq (a b:Bytes):decide (cB a=cB b)=decide (a=b):=by
 rw[Bool.eq_iff_iff,decide_eq_true_eq,decide_eq_true_eq];exact ⟨λz=>lV z,λz=>by rw[z]⟩
theorem W9:("not" : Str)=cB (word "not"):=by decide +kernel
theorem W7:("and" : Str)=cB (word "and"):=by decide +kernel
theorem sOr:("or" : Str)=cB (word "or"):=by decide +kernel
theorem sEq:("eq" : Str)=cB (word "eq"):=by decide +kernel
theorem sIf:("if" : Str)=cB (word "if"):=by decide +kernel
theorem WA:("true" : Str)=cB (word "true"):=by decide +kernel
theorem TV:("false" : Str)=cB (word "false"):=by decide +kernel
def qX (xs:List Nat):List V:=xs.map λx=>V.int (x:Nat)
def comb (wd:Bytes)(y:Nat):List Nat->Option Nat
 | [a]=>if wd=word "not" then some (y ^^^ a) else none
 | [a,b]=>if wd=word "and" then some (a &&& b) else if wd=word "or" then some (a ||| b) else if wd=word "eq" then some (y ^^^ a ^^^ b) else none
 | [c,a,b]=>if wd=word "if" then some ((c &&& a) ||| ((y ^^^ c) &&& b)) else none
 | _=>none
inductive rM (vs:List V) (H:Hp) (Q:VK) (E:XK):Prop
 | mk:∀ (p:Addr) (wd:Bytes) (y:Nat) (xs:List Nat) (r:Nat),vs=[.str (cB wd),.ref p,.int (y:Nat)]->H p=some (.lst (qX xs))->comb wd y xs=some r->Q (.int (r:Nat)) H->rM vs H Q E
theorem JP:aO ["word","parts","yes"] ["word","parts","yes"] (aI lI):=by walk_at "s"
theorem DU {f:Addr}{fd:FuncData}(F:Def K mg "combine" lI ["word","parts","yes"] f fd):aN P w K mg base CX0 1 f fd ["word","parts","yes"] rM:=by
 refine F.fn.ok JP (λvs H Q E h=>?_) (λcdv A outer s H vs Q E hr h=>?_)
 ·walk_at "l"
 ·obtain ⟨p,wd,y,xs,r,rfl,hp,hc,q⟩:=h
  refine ⟨_,aG (bC (aT bV (pv 0) dU (aY _)) (aE (aP (b7 uM (pv 2) (aK aL (pv 1) aF (λ_ _=>rfl))))) aV)
   (aG (bC (aT bV (pv 0) dU (aY _)) (aE (aP (b7 DY (aK aL (pv 1) aF (λ_ _=>rfl)) (aK aL (pv 1) aF (λ_ _=>rfl))))) aV)
   (aG (bC (aT bV (pv 0) dU (aY _)) (aE (aP (b7 MJ (aK aL (pv 1) aF (λ_ _=>rfl)) (aK aL (pv 1) aF (λ_ _=>rfl))))) aV)
   (aG (bC (aT bV (pv 0) dU (aY _)) (aE (aP (b7 uM (b7 uM (pv 2) (aK aL (pv 1) aF (λ_ _=>rfl))) (aK aL (pv 1) aF (λ_ _=>rfl))))) aV)
   (aE (aP (b7 MJ (b7 DY (aK aL (pv 1) aF (λ_ _=>rfl)) (aK aL (pv 1) aF (λ_ _=>rfl))) (b7 DY (b7 uM (pv 2) (aK aL (pv 1) aF (λ_ _=>rfl))) (aK aL (pv 1) aF (λ_ _=>rfl))))))))),?_⟩
  k_caughtN0;rw[W9,W7,sOr,sEq,weq,weq,weq,weq];simp only[decide_eq_true_eq];have n0:∀ (a:Nat) (l:List Nat),atI (qX (a::l)) 0=some (.int (a:Nat)):=λa l=>aX (j:=0) rfl;have n1:∀ (a b:Nat) (l:List Nat),atI (qX (a::b::l)) 1=some (.int (b:Nat)):=λa b l=>aX (j:=1) rfl;have n2:∀ (a b c:Nat) (l:List Nat),atI (qX (a::b::c::l)) 2=some (.int (c:Nat)):=λa b c l=>aX (j:=2) rfl
  match xs,hp,hc with
  | [a],hp,hc=>
   simp only[comb] at hc;split at hc
   ·rename_i e;cases hc;rw[if_pos e];exact ⟨_,SqL.of hp,_,n0 _ _,_,rfl,by rw[hG];exact q⟩
   ·cases hc
  | [a,b],hp,hc=>
   simp only[comb] at hc;split at hc
   ·rename_i e;cases hc;rw[if_neg (by rw[e];decide +kernel),if_pos e];exact ⟨_,SqL.of hp,_,n0 _ _,_,SqL.of hp,_,n1 _ _ _,_,rfl,_,rfl,by rw[jJ];exact q⟩
   ·split at hc
    ·rename_i e;cases hc;rw[if_neg (by rw[e];decide +kernel),if_neg (by rw[e];decide +kernel),if_pos e];exact ⟨_,SqL.of hp,_,n0 _ _,_,SqL.of hp,_,n1 _ _ _,_,rfl,_,rfl,by rw[m4];exact q⟩
    ·split at hc
     ·rename_i e;cases hc;rw[if_neg (by rw[e];decide +kernel),if_neg (by rw[e];decide +kernel),if_neg (by rw[e];decide +kernel),if_pos e];exact ⟨_,SqL.of hp,_,n0 _ _,_,rfl,_,SqL.of hp,_,n1 _ _ _,_,rfl,by rw[hG,hG];exact q⟩
     ·cases hc
  | [c,a,b],hp,hc=>
   simp only[comb] at hc;split at hc
   ·rename_i e;cases hc;rw[if_neg (by rw[e];decide +kernel),if_neg (by rw[e];decide +kernel),if_neg (by rw[e];decide +kernel),if_neg (by rw[e];decide +kernel)];exact ⟨_,SqL.of hp,_,n0 _ _,_,SqL.of hp,_,n1 _ _ _,_,rfl,_,rfl,_,SqL.of hp,_,n0 _ _,_,rfl,_,SqL.of hp,_,n2 _ _ _ _,_,rfl,by rw[hG,jJ,jJ,m4];exact q⟩
   ·cases hc
  | [],hp,hc=>cases hc
  | _::_::_::_::_,hp,hc=>cases hc
abbrev uU:Stmt:=top 65
def tN (nms:List Bytes)(b:Bytes):Except Nat Nat:=
 if b=word "true" then .ok (pw nms.length-1) else if b=word "false" then .ok 0 else if RESERVED.contains b=true then .error 3
 else match nms.findIdx? (λx=>x==b) with
  | some i=>.ok (vt nms.length i)
  | none=>.error 6
structure K6 (K:PySem.W.Frag)(mg:Str->Option Value)(C CT CS:Addr):Prop where
 na:GI mg "NOT_ALLOWED" 3
 nu:GI mg "NAME_UNKNOWN" 6
 ng:wB K mg
 TK:∃ fT td,fJ K mg CT fT td
 T:∃ fC cd,gE K mg C fC cd
 SC:∃ fS sd,KJ K mg CS fS sd
inductive zI (C CT CS:Addr) (vs:List V) (H:Hp) (Q:VK) (E:XK):Prop
 | mk:∀ (a s:Addr) (p:Nat) (b:Bytes) (nms:List Bytes),vs=[.ref a,.ref s]->dC CT H a ⟨p,.name b⟩->CZ CS H s nms->(match tN nms b with
  | .ok t=>Q (.int (t:Nat)) H
  | .error c=>Flt C E [] H (c:Nat) p)->zI C CT CS vs H Q E
theorem QB:aO ["token","scope"] ["token","scope"] (aI uU):=by walk_at "s"
theorem LW {C CT CS f:Addr}{fd:FuncData}(N:K6 K mg C CT CS)(F:Def K mg "read_alone" uU ["token","scope"] f fd):aN P w K mg base (CXF P w C) 3 f fd ["token","scope"] (zI C CT CS):=by
 obtain ⟨fT,td,TK⟩:=N.TK;obtain ⟨fC,cd,T⟩:=N.T;obtain ⟨fS,sd,SC⟩:=N.SC;obtain ⟨g,gd,G⟩:=N.ng.fn;have O:aN P w K mg base CX0 1 g gd ["token"] (vB CT):=yL N.ng TK G;refine F.fn.okX QB (λvs H Q E h=>?_) (λcdv A outer s H vs Q E hr h=>?_)
 ·walk_at "l"
 ·obtain ⟨a,s,p,b,nms,rfl,⟨bh,da,ea⟩,⟨ds,d,kvs,hs,hd,htb⟩,q⟩:=h
  refine ⟨_,aM (bC (aT bV (aJ (pv 0) rfl) dU (aY _)) (aE (aP (aJ (pv 1) rfl))) aV)
   (aM (bC (aT bV (aJ (pv 0) rfl) dU (aY _)) (aE (aP aF)) aV)
   (aM (bC (gJ (cE (aS O (hr.mono (by decide)) (by rfl) G.at_ G.fn.kp G.bd .nil aR (a9 (pv 0) aC)))) (aE (cK (k:=0) T rfl dB hr (pgi N.na) (aJ (pv 0) rfl))) aV)
   (aM (bC (E3 (JG (kI hr) (aJ (pv 0) rfl) (aJ (pv 1) rfl))) (aE (cK (k:=0) T rfl dB hr (pgi N.nu) (aJ (pv 0) rfl))) aV)
   (aE (aP (PZ (kI hr) (aJ (pv 1) rfl) (aJ (pv 0) rfl) (by first|exact λ_ _=>rfl|trivial|rfl))))))),?_⟩
  unfold tN at q;refine ⟨λσ' H'=>σ'=[some (.ref a),some (.ref s)]/\H'=H/\¬ b=word "true",?_,?_⟩
  ·refine ⟨_,rfl,a,CT,da,_,_,rfl,ea,TK.cl,TK.nS,cT _ _ _ _,rfl,_,rfl,?_⟩
   show if decide (V.str (cB b)=V.str _)=true then _ else _
   rw[qR,WA,weq]
   by_cases h:b=word "true"
   ·rw[if_pos (decide_eq_true h)];rw[if_pos h] at q;exact ⟨_,rfl,s,CS,ds,_,_,rfl,hs,SC.cl,SC.nY,NE _ _,q⟩
   ·rw[if_neg (by simp[h])];exact ⟨rfl,rfl,h⟩
  ·rintro σ1 H1 ⟨rfl,rfl,h⟩;rw[if_neg h] at q;refine ⟨λσ' H'=>σ'=[some (.ref a),some (.ref s)]/\H'=H1/\¬ b=word "false",?_,?_⟩
   ·refine ⟨_,rfl,a,CT,da,_,_,rfl,ea,TK.cl,TK.nS,cT _ _ _ _,rfl,_,rfl,?_⟩
    show if decide (V.str (cB b)=V.str _)=true then _ else _
    rw[qR,TV,weq]
    by_cases h:b=word "false"
    ·rw[if_pos (decide_eq_true h)];rw[if_pos h] at q;exact q
    ·rw[if_neg (by simp[h])];exact ⟨rfl,rfl,h⟩
   ·rintro σ2 H2 ⟨rfl,rfl,h⟩;rw[if_neg h] at q;refine ⟨λσ' H'=>σ'=[some (.ref a),some (.ref s)]/\H'=H2/\¬ RESERVED.contains b=true,?_,?_⟩
    ·refine ⟨_,rfl,a,⟨p,.name b⟩,rfl,⟨bh,da,ea⟩,_,rfl,?_⟩
     show if (!(!RESERVED.contains b))=true then _ else _
     rw[Bool.not_not]
     by_cases h:RESERVED.contains b=true
     ·rw[if_pos h];rw[if_pos h] at q;exact ⟨_,rfl,a,CT,da,_,_,rfl,ea,TK.cl,TK.nP,eE _ _ _ _,_,_,rfl,rfl,q⟩
     ·rw[if_neg h];exact ⟨rfl,rfl,h⟩
    ·rintro σ3 H3 ⟨rfl,rfl,h⟩;rw[if_neg h] at q;have hv:=htb b;refine ⟨λσ' H'=>σ'=[some (.ref a),some (.ref s)]/\H'=H3/\∃ i,nms.findIdx? (λx=>x==b)=some i,?_,?_⟩
     ·refine ⟨_,rfl,a,CT,da,_,_,rfl,ea,TK.cl,TK.nS,cT _ _ _ _,_,rfl,s,CS,ds,_,_,rfl,hs,SC.cl,SC.nT,rL _ _,d,_,rfl,AB.k (k:=.inr (cB b)) hd,_,rfl,?_⟩;rw[hv]
      cases hf:nms.findIdx? (λx=>x==b) with
      | none=>
       rw[hf] at q;exact ⟨_,rfl,a,CT,da,_,_,rfl,ea,TK.cl,TK.nP,eE _ _ _ _,_,_,rfl,rfl,q⟩
      | some i=>exact ⟨rfl,rfl,i,rfl⟩
     ·rintro σ4 H4 ⟨rfl,rfl,i,hf⟩;rw[hf] at q hv;exact ⟨_,rfl,s,CS,ds,_,_,rfl,hs,SC.cl,SC.nT,rL _ _,_,rfl,a,CT,da,_,_,rfl,ea,TK.cl,TK.nS,cT _ _ _ _,d,_,rfl,.inl ⟨kvs,.inr (cB b),.inl hd,rfl,hv.symm⟩,q⟩
end
end TC
namespace TC
open PySem PySem.Spec PyProof.Rows L2 XF VaprbBase Mth
open Vaprbg (Var Form takeForm takeTwo)
abbrev F9:=Toks->Except Fault (Form×Toks)
def cH (form:F9):Nat->List Form->Toks->Except Fault (List Form×Toks)
 | 0,acc,l=>Except.bind (takeSign 41 l) λl=>.ok (acc,l)
 | k+1,acc,l=>Except.bind (takeSign 44 l) λl=>Except.bind (form l) λx=>cH form k (acc++[x.1]) x.2
def gH (form:F9)(k:Nat)(l:Toks):Except Fault (List Form×Toks):=
 Except.bind (takeSign 40 l) λl=>Except.bind (form l) λx=>cH form (k-1) [x.1] x.2
def cG (wd:Bytes):Option Nat:=
 if wd=word "not" then some 1 else if wd=word "and" then some 2 else if wd=word "or" then some 2 else if wd=word "eq" then some 2 else if wd=word "if" then some 3 else none
def hW (wd:Bytes):List Form->Form
 | [a]=>.not a
 | [a,b]=>if wd=word "and" then .and a b else if wd=word "or" then .or a b else .eq a b
 | [c,a,b]=>.cond c a b
 | _=>.const false
theorem kW {α β:Type}(x:Except Fault α)(f:α->Except Fault β):(x >>= f)=Except.bind x f:=rfl
theorem C8 (vs:List Var)(n p:Nat)(r:Toks):takeForm vs (n+1) (⟨p,.name (word "if")⟩::r)=Except.bind (gH (takeForm vs n) 3 r) λx=>.ok (hW (word "if") x.1,x.2):=by
 rw[takeForm,if_neg (by decide +kernel),if_neg (by decide +kernel),if_pos rfl];unfold gH;simp only[kW]
 cases takeSign 40 r with
 | error e=>rfl
 | ok l=>
  simp only[Except.bind]
  cases takeForm vs n l with
  | error e=>rfl
  | ok x=>
   simp only[cH,Except.bind]
   cases takeSign 44 x.2 with
   | error e=>rfl
   | ok l=>
    simp only
    cases takeForm vs n l with
    | error e=>rfl
    | ok y=>
     simp only
     cases takeSign 44 y.2 with
     | error e=>rfl
     | ok l=>
      simp only
      cases takeForm vs n l with
      | error e=>rfl
      | ok z=>
       simp only
       cases takeSign 41 z.2 with
       | error e=>rfl
       | ok l=>rfl
theorem rW (vs:List Var)(n:Nat)(r:Toks)(wd:Bytes)(g:Form->Form->Form)(hg:∀ a b,hW wd [a,b]=g a b):
  ((takeTwo (takeForm vs n) r).map λx=>(g x.1.1 x.1.2,x.2))=Except.bind (gH (takeForm vs n) 2 r) λx=>.ok (hW wd x.1,x.2):=by
 unfold gH takeTwo;simp only[kW]
 cases takeSign 40 r with
 | error e=>rfl
 | ok l=>
  simp only[Except.bind]
  cases takeForm vs n l with
  | error e=>rfl
  | ok x=>
   simp only[cH,Except.bind]
   cases takeSign 44 x.2 with
   | error e=>rfl
   | ok l=>
    simp only
    cases takeForm vs n l with
    | error e=>rfl
    | ok y=>
     simp only
     cases takeSign 41 y.2 with
     | error e=>rfl
     | ok l=>
      show Except.ok _=Except.ok _;rw[show [x.1]++[y.1]=[x.1,y.1] from rfl,hg]
theorem vM (vs:List Var)(n p:Nat)(r:Toks)(wd:Bytes)(k:Nat)(hk:cG wd=some k)(ho:wd=word "if" ∨ next (.sign 40) r=true):
  takeForm vs (n+1) (⟨p,.name wd⟩::r)=Except.bind (gH (takeForm vs n) k r) λx=>.ok (hW wd x.1,x.2):=by
 unfold cG at hk
 by_cases h1:wd=word "not"
 ·subst h1;rw[if_pos rfl] at hk;cases hk
  have ho:next (.sign 40) r=true:=ho.resolve_left (by decide +kernel)
  rw[takeForm,if_neg (by decide +kernel),if_neg (by decide +kernel),if_neg (by decide +kernel),if_neg (by decide +kernel),if_pos ho,if_pos rfl];unfold gH;simp only[kW]
  cases takeSign 40 r with
  | error e=>rfl
  | ok l=>
   simp only[Except.bind]
   cases takeForm vs n l with
   | error e=>rfl
   | ok x=>
    simp only[Nat.sub_self,cH,Except.bind]
    cases takeSign 41 x.2 with
    | error e=>rfl
    | ok l=>rfl
 rw[if_neg h1] at hk
 by_cases h2:wd=word "and"
 ·subst h2;rw[if_pos rfl] at hk;cases hk
  have ho:next (.sign 40) r=true:=ho.resolve_left (by decide +kernel)
  rw[takeForm,if_neg (by decide +kernel),if_neg (by decide +kernel),if_neg (by decide +kernel),if_neg (by decide +kernel),if_pos ho,if_neg (by decide +kernel),if_pos rfl];exact rW vs n r _ .and λa b=>by simp only[hW,if_true]
 rw[if_neg h2] at hk
 by_cases h3:wd=word "or"
 ·subst h3;rw[if_pos rfl] at hk;cases hk
  have ho:next (.sign 40) r=true:=ho.resolve_left (by decide +kernel)
  rw[takeForm,if_neg (by decide +kernel),if_neg (by decide +kernel),if_neg (by decide +kernel),if_neg (by decide +kernel),if_pos ho,if_neg (by decide +kernel),if_neg (by decide +kernel),if_pos rfl];exact rW vs n r _ .or λa b=>by simp only[hW,if_neg h2,if_true]
 rw[if_neg h3] at hk
 by_cases h4:wd=word "eq"
 ·subst h4;rw[if_pos rfl] at hk;cases hk
  have ho:next (.sign 40) r=true:=ho.resolve_left (by decide +kernel)
  rw[takeForm,if_neg (by decide +kernel),if_neg (by decide +kernel),if_neg (by decide +kernel),if_neg (by decide +kernel),if_pos ho,if_neg (by decide +kernel),if_neg (by decide +kernel),if_neg (by decide +kernel),if_pos rfl];exact rW vs n r _ .eq λa b=>by simp only[hW,if_neg h2,if_neg h3]
 rw[if_neg h4] at hk
 by_cases h5:wd=word "if"
 ·subst h5;rw[if_pos rfl] at hk;cases hk;exact C8 vs n p r
 ·rw[if_neg h5] at hk;cases hk
theorem w6 (vs:List Var)(n p:Nat)(r:Toks)(wd:Bytes)(hk:cG wd=none)(ho:next (.sign 40) r=true)(hr:RESERVED.contains wd=false):takeForm vs (n+1) (⟨p,.name wd⟩::r)=.error ⟨3,p⟩:=by
 unfold cG at hk;have h1:¬ wd=word "not" := λz=>by rw[if_pos z] at hk;cases hk
 rw[if_neg h1] at hk;have h2:¬ wd=word "and" := λz=>by rw[if_pos z] at hk;cases hk
 rw[if_neg h2] at hk;have h3:¬ wd=word "or" := λz=>by rw[if_pos z] at hk;cases hk
 rw[if_neg h3] at hk;have h4:¬ wd=word "eq" := λz=>by rw[if_pos z] at hk;cases hk
 rw[if_neg h4] at hk;have h5:¬ wd=word "if" := λz=>by rw[if_pos z] at hk;cases hk
 have h6:¬ wd=word "true" := λz=>by rw[z] at hr;revert hr;decide +kernel
 have h7:¬ wd=word "false" := λz=>by rw[z] at hr;revert hr;decide +kernel
 rw[takeForm,if_neg h6,if_neg h7,if_neg h5,if_neg (by rw[hr];exact Bool.false_ne_true),if_pos ho,if_neg h1,if_neg h2,if_neg h3,if_neg h4]
def dZ (n:Nat)(f:Form):Nat:=tab n λas=>f.val as
theorem vL (vs:List Var)(n p:Nat)(r:Toks)(wd:Bytes)(h5:¬ wd=word "if")(ho:next (.sign 40) r=false∨RESERVED.contains wd=true):
  match tN (vs.map (·.name)) wd with
  | .error c=>takeForm vs (n+1) (⟨p,.name wd⟩::r)=.error ⟨c,p⟩
  | .ok t=>∃ f,takeForm vs (n+1) (⟨p,.name wd⟩::r)=.ok (f,r)/\dZ vs.length f=t:=by
 unfold tN;rw[List.length_map]
 by_cases h6:wd=word "true"
 ·rw[if_pos h6];exact ⟨.const true,by rw[takeForm,if_pos h6],by unfold dZ;exact lQ _⟩
 ·rw[if_neg h6]
  by_cases h7:wd=word "false"
  ·rw[if_pos h7];exact ⟨.const false,by rw[takeForm,if_neg h6,if_pos h7],by unfold dZ;exact rR _⟩
  ·rw[if_neg h7]
   by_cases h8:RESERVED.contains wd=true
   ·rw[if_pos h8];show takeForm vs (n+1) _=_;rw[takeForm,if_neg h6,if_neg h7,if_neg h5,if_pos h8];rfl
   ·rw[if_neg h8]
    have ho:next (.sign 40) r=false:=ho.resolve_right h8
    have e:(vs.map (·.name)).findIdx? (λx=>x==wd)=vs.findIdx? (λv=>v.name==wd):=by
     rw[List.findIdx?_map];rfl
    rw[e]
    have tf:takeForm vs (n+1) (⟨p,.name wd⟩::r)=match vs.findIdx? (λv=>v.name==wd) with
     | some i=>.ok (.var i,r)
     | none=>.error ⟨6,p⟩:=by
     rw[takeForm,if_neg h6,if_neg h7,if_neg h5,if_neg h8,if_neg (by rw[ho];exact Bool.false_ne_true)];cases vs.findIdx? (λv=>v.name==wd)<;>rfl
    rw[tf]
    cases vs.findIdx? (λv=>v.name==wd) with
    | none=>rfl
    | some i=>exact ⟨.var i,rfl,rfl⟩
theorem OS (n:Nat)(wd:Bytes)(fs:List Form)(h:cG wd=some fs.length):comb wd (pw n-1) (fs.map (dZ n))=some (dZ n (hW wd fs)):=by
 unfold cG at h
 match fs,h with
 | [],h=>split at h<;>(try split at h)<;>(try split at h)<;>(try split at h)<;>(try split at h)<;>cases h
 | [a],h=>
  have:wd=word "not" := by
   split at h
   ·assumption
   ·split at h<;>(try split at h)<;>(try split at h)<;>(try split at h)<;>cases h
  simp only[List.map,comb,if_pos this];unfold dZ hW;rw[← HY];rfl
 | [a,b],h=>
  by_cases h1:wd=word "not"
  ·rw[if_pos h1] at h;cases h
  rw[if_neg h1] at h;simp only[List.map,comb,hW]
  by_cases h2:wd=word "and"
  ·rw[if_pos h2,if_pos h2];unfold dZ;rw[← zZ];rfl
  rw[if_neg h2] at h;rw[if_neg h2,if_neg h2]
  by_cases h3:wd=word "or"
  ·rw[if_pos h3,if_pos h3];unfold dZ;rw[← NY];rfl
  rw[if_neg h3] at h;rw[if_neg h3,if_neg h3]
  by_cases h4:wd=word "eq"
  ·rw[if_pos h4];unfold dZ;rw[← UN];rfl
  rw[if_neg h4] at h;split at h<;>cases h
 | [c,a,b],h=>
  have:wd=word "if" := by
   split at h
   ·cases h
   ·split at h
    ·cases h
    ·split at h
     ·cases h
     ·split at h
      ·cases h
      ·split at h
       ·assumption
       ·cases h
  simp only[List.map,comb,if_pos this];unfold dZ hW;rw[← UO];rfl
 | _::_::_::_::fs,h=>
  exfalso;split at h
  ·cases h
  ·split at h
   ·cases h
   ·split at h
    ·cases h
    ·split at h
     ·cases h
     ·split at h
      ·simp at h
      ·cases h
abbrev rG:Stmt:=top 64
abbrev uW:Stmt:=top 66
section
variable {P:Program}{w:World}{K:PySem.W.Frag}{mg:Str->Option Value}{base:Heap}
structure AD (P:Program)(w:World)(K:PySem.W.Frag)(mg:Str->Option Value)(C CR CT CS:Addr):Prop where
 tk:oO K mg C CR CT
 al:K6 K mg C CT CS
 len:mg "len" = none
 nc:CS≠CR
 dp:GI mg "DEEPEST" 24
 tm:GI mg "TOO_MANY" 4
 parts:∃ f fd,Def K mg "read_parts" rG ["reader","scope","how_many","inside"] f fd
 alone:∃ f fd,Def K mg "read_alone" uU ["token","scope"] f fd
 comb:∃ f fd,Def K mg "combine" lI ["word","parts","yes"] f fd
def xP (C CR CT:Addr)(H:Hp)(Q:VK)(E:XK)(r l:Addr)(ts:Toks)(N:Nat)(e:Except Fault (Form×Toks)):Prop:=match e with
 | .error f=>Flt C E [r] H f.code f.place
 | .ok (f,l')=>∀ (i':Nat) (t':PTok) (H':Hp),l'=ts.drop i'->ts[i']?=some t'->c7 CR CT H' r l ts i'->aH [r] H H'->Q (.int (dZ N f:Nat)) H'
inductive rN (C CR CT CS:Addr) (n:Nat) (us:List V) (H:Hp) (Q:VK) (E:XK):Prop
 | mk:∀ (r l s:Addr) (ts:Toks) (i m:Nat) (t:PTok) (vs:List Var),us=[.ref r,.ref s,.int (m:Nat)]->m+n=24->c7 CR CT H r l ts i->sB ts->ts[i]?=some t->CZ CS H s (vs.map (·.name))->xP C CR CT H Q E r l ts vs.length (takeForm vs n (ts.drop i))->rN C CR CT CS n us H Q E
def oM (C CR CT:Addr)(H:Hp)(Q:VK)(E:XK)(r l:Addr)(ts:Toks)(N:Nat)(e:Except Fault (List Form×Toks)):Prop:=match e with
 | .error f=>Flt C E [r] H f.code f.place
 | .ok (fs,l')=>∀ (p:Addr) (i':Nat) (t':PTok) (H':Hp),l'=ts.drop i'->ts[i']?=some t'->c7 CR CT H' r l ts i'->H' p=some (.lst (qX (fs.map (dZ N))))->H p=none->aH [r] H H'->Q (.ref p) H'
inductive zS (C CR CT CS:Addr) (n:Nat) (us:List V) (H:Hp) (Q:VK) (E:XK):Prop
 | mk:∀ (r l s:Addr) (ts:Toks) (i m k:Nat) (t:PTok) (vs:List Var),us=[.ref r,.ref s,.int (k:Nat),.int (m:Nat)]->m+n=24->1<=k->k<=3->c7 CR CT H r l ts i->sB ts->ts[i]?=some t->CZ CS H s (vs.map (·.name))->oM C CR CT H Q E r l ts vs.length (gH (takeForm vs n) k (ts.drop i))->zS C CR CT CS n us H Q E
theorem zE:aO ["reader","scope","how_many","inside","parts"] ["reader","scope","how_many","inside"] (aI rG):=by walk_at "s"
theorem M6 {C CR CT CS f g:Addr}{fd gd:FuncData}{k n:Nat}(hk:4<=k)(N:AD P w K mg C CR CT CS)(G:Def K mg "read_formula" uW ["reader","scope","inside"] g gd)(O:aN P w K mg base (CXF P w C) k g gd ["reader","scope","inside"] (rN C CR CT CS n))
  (F:Def K mg "read_parts" rG ["reader","scope","how_many","inside"] f fd):aN P w K mg base (CXF P w C) (k+1) f fd ["reader","scope","how_many","inside"] (zS C CR CT CS n):=by
 obtain ⟨g4,d4,G4⟩:=N.tk.R.tSign;have O4:aN P w K mg base (CXF P w C) 4 g4 d4 ["self","sign"] (mO C CR CT):=pI N.tk G4;have RC:=N.tk.R;refine F.fn.okX zE (λus H Q E h=>?_) (λcdv A outer s H us Q E hr h=>?_)
 ·walk_at "l"
 ·obtain ⟨r,l,s,ts,i,m,hm,t,vs,rfl,hmn,k1,k3,hR,hE,ht,hSc,q⟩:=h
  refine ⟨_,aM (bE (bA (pv 0) RC.cl G4.me O4 (hr.mono hk) G4.bd .nil cO (a9 dU aC)))
   (aM (aQ (i:=4) zE.nd rfl (Or.inl rfl) (bD (a9 (aS O hr (by rfl) G.at_ G.fn.kp G.bd .nil cO (a9 (pv 0) (a9 (pv 1) (a9 (pv 3) aC)))) aC)))
   (aM (eC ML (aT eZ (b9 aU (by rfl) N.len PySem.boot_len (a9 (pv 4) aC)) (pv 2) (aY _))
    (aM (bE (bA (pv 0) RC.cl G4.me O4 (hr.mono hk) G4.bd .nil cO (a9 dU aC)))
    (aE (bE (iB PySem.F.plainAttrs_list PySem.F.slot_list_append PySem.F.type_list_append dG (pv 4) (a9 (aS O hr (by rfl) G.at_ G.fn.kp G.bd .nil cO (a9 (pv 0) (a9 (pv 1) (a9 (pv 3) aC)))) aC))))))
   (aM (bE (bA (pv 0) RC.cl G4.me O4 (hr.mono hk) G4.bd .nil cO (a9 dU aC)))
   (aE (aP (pv 4)))))),?_⟩
  obtain ⟨dx,hr1⟩:=hR.rd;have c40:("(" : Str)=⟨#[40]⟩:=by decide +kernel
  have c44:("," : Str)=⟨#[44]⟩:=by decide +kernel
  have c41:(")" : Str)=⟨#[41]⟩:=by decide +kernel
  unfold gH at q;rw[fH ht] at q
  let σ0:Option V->L2.St:=λx=>[some (.ref r),some (.ref s),some (.int (hm:Nat)),some (.int (m:Nat)),x]
  refine ⟨λσ' H'=>t.tok=.sign 40/\σ'=σ0 none/\c7 CR CT H' r l ts (i+1)/\aH [r] H H',?_,?_⟩
  ·refine ⟨_,rfl,r,dx,_,rfl,hr1,fB.2.2.2.2.2.2.1,r,l,ts,i,t,40,by decide,by rw[c40];rfl,hR,ht,?_⟩;unfold dR
   by_cases h4:t.tok=.sign 40
   ·rw[if_pos (decide_eq_true h4)]
    exact λb H'' _ hR'' kp=>⟨h4,rfl,hR'',kp⟩
   ·rw[if_neg (by simp[h4])];rw[if_neg h4] at q;exact Flt.to q aH.refl
  ·rintro σ1 H1 ⟨h40,rfl,hR1,kp1⟩;rw[if_pos h40] at q;obtain ⟨t1,ht1⟩:=cX hE ht (by rw[h40];intro z;cases z);have q:oM C CR CT H Q E r l ts vs.length (Except.bind (takeForm vs n (ts.drop (i+1))) λx=>cH (takeForm vs n) (hm-1) [x.1] x.2):=q
   let Iv:L2.St->Hp->Nat->Prop:=λσ' H' j=>∃ (p:Addr) (i:Nat) (t:PTok) (fs:List Form),σ'=σ0 (some (.ref p))/\c7 CR CT H' r l ts i/\ts[i]?=some t/\H' p=some (.lst (qX (fs.map (dZ vs.length))))/\H p=none/\fs.length+j=hm/\aH [r] H H'/\oM C CR CT H Q E r l ts vs.length (cH (takeForm vs n) j fs (ts.drop i))
   refine ⟨λσ' H'=>∃ j,Iv σ' H' j,?_,?_⟩
   ·refine ⟨_,rfl,_,rfl,_,rfl,r,l,s,ts,i+1,m,t1,vs,rfl,hmn,hR1,hE,ht1,hSc.keepR hr1 N.nc kp1,?_⟩;unfold xP
    cases ef:takeForm vs n (ts.drop (i+1)) with
    | error f=>
     rw[ef] at q;exact Flt.keep q kp1
    | ok x=>
     obtain ⟨x,l'⟩:=x;rw[ef] at q;intro i' t' H2 e1 e2 hR2 kp2;subst e1;refine ⟨by show 1<=sizeLine;rw[sizeLine_eq];decide,λp hp=>⟨hm-1,p,i',t',[x],rfl,hR2.laid hp,e2,aA,?_,by show 1+(hm-1)=hm;lia,(kp1.trans kp2).trans (aH.laid hp),q⟩⟩;obtain ⟨dx2,hr2⟩:=hR2.rd;exact (kp1.trans kp2).none hp (by simpa using Ne.symm (aD hr2 hp))
   ·rintro σ2 H2 ⟨j,hI⟩;refine ⟨λσ' H'=>Iv σ' H' 0,?_,?_⟩
    ·refine ⟨λx σ' H'=>Iv σ' H' x,⟨j,hI⟩,?_⟩;rintro j σ' H' ⟨p,i,t,fs,rfl,hR',ht',hp',hp0,hj,kp',q'⟩;obtain ⟨dx',hr'⟩:=hR'.rd;have hl:(qX (fs.map (dZ vs.length))).length=fs.length:=by unfold qX;rw[List.length_map,List.length_map]
     refine ⟨_,rfl,p,_,rfl,.inl (SqL.of hp'),_,rfl,_,_,rfl,rfl,?_⟩;dsimp only;rw[hl];refine ⟨_,rfl,?_⟩
     cases j with
     | zero=>
      rw[if_neg (by simp only[decide_eq_true_eq];lia)];exact ⟨p,i,t,fs,rfl,hR',ht',hp',hp0,hj,kp',q'⟩
     | succ j=>
      rw[if_pos (decide_eq_true (by lia))];refine ⟨λσ2 H2=>∃ m',m'<j+1/\Iv σ2 H2 m',λ_ _ z=>z,?_⟩;unfold cH at q';rw[fH ht'] at q';refine ⟨λσ' H''=>t.tok=.sign 44/\σ'=σ0 (some (.ref p))/\c7 CR CT H'' r l ts (i+1)/\H'' p=some (.lst (qX (fs.map (dZ vs.length))))/\aH [r] H H'',?_,?_⟩
      ·refine ⟨_,rfl,r,dx',_,rfl,hr',fB.2.2.2.2.2.2.1,r,l,ts,i,t,44,by decide,by rw[c44];rfl,hR',ht',?_⟩;unfold dR
       by_cases h4:t.tok=.sign 44
       ·rw[if_pos (decide_eq_true h4)]
        exact λb H'' _ hR'' kp=>⟨h4,rfl,hR'',kp _ _ hp' (by simpa using bI hp' hr' (by intro z;cases z)),kp'.trans kp⟩
       ·rw[if_neg (by simp[h4])];rw[if_neg h4] at q';exact Flt.to q' kp'
      ·rintro σ3 H3 ⟨h44,rfl,hR3,hp3,kp3⟩;rw[if_pos h44] at q';obtain ⟨t2,ht2⟩:=cX hE ht' (by rw[h44];intro z;cases z);have q':oM C CR CT H Q E r l ts vs.length (Except.bind (takeForm vs n (ts.drop (i+1))) λx=>cH (takeForm vs n) j (fs++[x.1]) x.2):=q';obtain ⟨dx3,hr3⟩:=hR3.rd;refine ⟨_,rfl,.inl ⟨rfl,_,SqL.of hp3⟩,_,rfl,_,rfl,_,rfl,r,l,s,ts,i+1,m,t2,vs,rfl,hmn,hR3,hE,ht2,hSc.keepR hr1 N.nc kp3,?_⟩;unfold xP
       cases ef:takeForm vs n (ts.drop (i+1)) with
       | error f=>
        rw[ef] at q';exact Flt.keep q' kp3
       | ok x=>
        obtain ⟨x,l'⟩:=x;rw[ef] at q';intro i' t' H4 e1 e2 hR4 kp4;subst e1;have hp4:H4 p=some (.lst (qX (fs.map (dZ vs.length)))):=kp4 _ _ hp3 (by simpa using bI hp3 hr3 (by intro z;cases z))
        have nlp:l≠p:=by
         obtain ⟨as,hl1,_⟩:=hR.tk;exact aD hl1 hp0
        refine ⟨p,_,_,rfl,rfl,hp4,by rw[hl,sizeLine_eq];lia,j,by lia,p,i',t',fs++[x],rfl,hR4.updL hp4 nlp,e2,?_,hp0,by rw[List.length_append,List.length_singleton];lia,λb o z nb=>?_,q'⟩
        ·rw[aA,List.map_append];unfold qX;rw[List.map_append];rfl
        ·rw[aB (aD z hp0)];exact kp4 b o (kp3 b o z nb) nb
    ·rintro σ3 H3 ⟨p,i,t,fs,rfl,hR3,ht3,hp3,hp0,hj,kp3,q'⟩;obtain ⟨dx3,hr3⟩:=hR3.rd;unfold cH at q';rw[fH ht3] at q';refine ⟨λσ' H'=>t.tok=.sign 41/\σ'=σ0 (some (.ref p))/\c7 CR CT H' r l ts (i+1)/\H' p=some (.lst (qX (fs.map (dZ vs.length))))/\aH [r] H H',?_,?_⟩
     ·refine ⟨_,rfl,r,dx3,_,rfl,hr3,fB.2.2.2.2.2.2.1,r,l,ts,i,t,41,by decide,by rw[c41];rfl,hR3,ht3,?_⟩;unfold dR
      by_cases h4:t.tok=.sign 41
      ·rw[if_pos (decide_eq_true h4)]
       exact λb H'' _ hR'' kp=>⟨h4,rfl,hR'',kp _ _ hp3 (by simpa using bI hp3 hr3 (by intro z;cases z)),kp3.trans kp⟩
      ·rw[if_neg (by simp[h4])];rw[if_neg h4] at q';exact Flt.to q' kp3
     ·rintro σ4 H4 ⟨h41,rfl,hR4,hp4,kp4⟩;rw[if_pos h41] at q';obtain ⟨t2,ht2⟩:=cX hE ht3 (by rw[h41];intro z;cases z);exact ⟨_,rfl,q' p (i+1) t2 H4 rfl ht2 hR4 hp4 hp0 kp4⟩
def nQ:List (Key×V):=[(.inr "not",.int 1),(.inr "and",.int 2),(.inr "or",.int 2),(.inr "eq",.int 2),(.inr "if",.int 3)]
theorem BL (wd:Bytes):dO nQ (.inr (cB wd))=(cG wd).map λk=>V.int (k:Nat):=by
 have st:∀ (b:Bytes) (v:V) (r:List (Key×V)),dO ((.inr (cB b),v)::r) (.inr (cB wd):Key)=if wd=b then some v else dO r (.inr (cB wd)):=λb v r=>by
  by_cases h:wd=b
  ·rw[if_pos h];exact dF (by rw[h])
  ·rw[if_neg h];exact dE (by intro z;injection z with z;exact h (lV z).symm)
 unfold nQ cG;rw[W9,W7,sOr,sEq,sIf,st,st,st,st,st]
 split
 ·rfl
 ·split
  ·rfl
  ·split
   ·rfl
   ·split
    ·rfl
    ·split
     ·rfl
     ·rfl
theorem KU {wd:Bytes}{k:Nat}(h:cG wd=some k):1<=k/\k<=3:=by
 unfold cG at h;split at h
 ·cases h;decide
 ·split at h
  ·cases h;decide
  ·split at h
   ·cases h;decide
   ·split at h
    ·cases h;decide
    ·split at h
     ·cases h;decide
     ·cases h
theorem BT (form:F9):∀ (k:Nat) (acc:List Form) (l l':Toks) (fs:List Form),cH form k acc l=.ok (fs,l')->fs.length=acc.length+k
 | 0,acc,l,l',fs,h=>by
  unfold cH at h
  cases e:takeSign 41 l with
  | error f=>rw[e] at h;cases h
  | ok x=>rw[e] at h;cases h;rfl
 | k+1,acc,l,l',fs,h=>by
  unfold cH at h
  cases e:takeSign 44 l with
  | error f=>rw[e] at h;cases h
  | ok l2=>
   rw[e] at h;simp only[Except.bind] at h
   cases e2:form l2 with
   | error f=>rw[e2] at h;cases h
   | ok x=>
    rw[e2] at h
    have:=BT form k _ _ _ _ h
    rw[this,List.length_append,List.length_singleton];lia
theorem JF {form:F9}{k:Nat}{l l':Toks}{fs:List Form}(hk:1<=k)(h:gH form k l=.ok (fs,l')):fs.length=k:=by
 unfold gH at h
 cases e:takeSign 40 l with
 | error f=>rw[e] at h;cases h
 | ok l2=>
  rw[e] at h;simp only[Except.bind] at h
  cases e2:form l2 with
  | error f=>rw[e2] at h;cases h
  | ok x=>
   rw[e2] at h
   have:=BT form _ _ _ _ _ h
   rw[this,List.length_singleton];lia
theorem i5 (vs:List Var)(n p:Nat)(tt:VaprbBase.Tok)(r:Toks)(h:∀ b,tt≠.name b):takeForm vs (n+1) (⟨p,tt⟩::r)=.error ⟨3,p⟩:=by
 cases tt with
 | name b=>exact absurd rfl (h b)
 | num b=>rfl
 | sign b=>rfl
 | halt_=>rfl
theorem zA:aO ["reader","scope","inside","token","opens","parts"] ["reader","scope","inside"] (aI uW):=by walk_at "s"
local macro_rules|`(tactic| walk_at "fb")=>`(tactic| (
 have hk0:=KU hpc;have hv:=BL b;rw[hpc] at hv;rw[vM vs n' p _ b k0 hpc ho] at q;refine ⟨λσ' H'=>∃ (pl:Addr) (i':Nat) (t':PTok) (fs:List Form),σ'=σ0 (some (.ref a)) (some (.bl op)) (some (.ref pl))/\gH (takeForm vs n') k0 (ts.drop (i+1))=.ok (fs,ts.drop i')/\ts[i']?=some t'/\c7 CR CT H' r l ts i'/\H' pl=some (.lst (qX (fs.map (dZ vs.length))))/\aH [r] H3 H',?_,?_⟩
 ·refine ⟨_,rfl,_,rfl,_,rfl,a,CT,da,_,_,rfl,ea,TK.cl,TK.nS,cT _ _ _ _,.inr (cB b),_,rfl,rfl,hv,_,rfl,_,_,rfl,rfl,r,l,s,ts,i+1,m+1,k0,t1,vs,(by rfl),by lia,hk0.1,hk0.2,hR2,hE,ht1,hSc2,?_⟩;unfold oM
  cases ef:gH (takeForm vs n') k0 (ts.drop (i+1)) with
  | error f=>
   rw[ef] at q;exact Flt.keep q k2
  | ok x=>
   obtain ⟨fs,l'⟩:=x;intro pl i' t' H4 e1 e2 hR4 hp4 hp0 k4;subst e1;exact ⟨pl,i',t',fs,rfl,rfl,e2,hR4,hp4,k4⟩
 ·rintro σ4 H4 ⟨pl,i',t',fs,rfl,ef,e2,hR4,hp4,k4⟩;rw[ef] at q;have hl:(vs.map (·.name)).length=vs.length:=List.length_map ..;have hln:=JF hk0.1 ef;obtain ⟨bh4,da4,ea4⟩:=ha2.keepR hr2' N.tk.nc k4;obtain ⟨ds4,d4',kvs4,hs4,_,_⟩:=hSc2.keepR hr2' N.nc k4
  exact ⟨_,rfl,a,CT,da4,_,_,rfl,ea4,TK.cl,TK.nS,cT _ _ _ _,_,rfl,_,rfl,s,CS,ds4,_,_,rfl,hs4,SC.cl,SC.nY,NE _ _,pl,b,_,fs.map (dZ vs.length),_,rfl,hp4,by rw[hl];exact OS vs.length b fs (by rw[hpc,hln]),q i' t' H4 rfl e2 hR4 (k2.trans k4)⟩))
theorem wK {C CR CT CS f gP:Addr}{fd dP:FuncData}{k n:Nat}(hk:4<=k)(N:AD P w K mg C CR CT CS)(PC:∃ a,mg "PART_COUNTS" = some (.ref a)/\xQ P w K a nQ)(F:Def K mg "read_formula" uW ["reader","scope","inside"] f fd)
  (GP:Def K mg "read_parts" rG ["reader","scope","how_many","inside"] gP dP) (spP:Sp) (OP:aN P w K mg base (CXF P w C) k gP dP ["reader","scope","how_many","inside"] spP) (hsp:∀ n',n=n'+1->spP=zS C CR CT CS n'):
  aN P w K mg base (CXF P w C) (k+1) f fd ["reader","scope","inside"] (rN C CR CT CS n):=by
 obtain ⟨pa,pm,pd⟩:=PC;obtain ⟨g1,d1,G1⟩:=N.tk.R.token;obtain ⟨g2,d2,G2⟩:=N.tk.R.tKind;obtain ⟨g3,d3,G3⟩:=N.tk.R.isSign;obtain ⟨g4,d4,G4⟩:=N.comb;obtain ⟨g5,d5,G5⟩:=N.alone;obtain ⟨g6,d6,G6⟩:=N.al.ng.fn;obtain ⟨fT,td,TK⟩:=N.tk.TK;obtain ⟨fC,cd,T⟩:=N.tk.T;obtain ⟨fS,sd,SC⟩:=N.al.SC;have RC:=N.tk.R;have O1:aN P w K mg base CX0 1 g1 d1 ["self"] (kE CR CT):=jT RC G1;have O2:aN P w K mg base (CXF P w C) 4 g2 d2 ["self","kind"] (mM C CR CT):=pG N.tk G2;have O3:aN P w K mg base CX0 2 g3 d3 ["self","sign"] (qB CR CT):=uK N.tk.sg RC TK G3;have O4:aN P w K mg base CX0 1 g4 d4 ["word","parts","yes"] rM:=DU G4;have O5:aN P w K mg base (CXF P w C) 3 g5 d5 ["token","scope"] (zI C CT CS):=LW N.al G5;have O6:aN P w K mg base CX0 1 g6 d6 ["token"] (vB CT):=yL N.al.ng TK G6;refine F.fn.okX zA (λus H Q E h=>?_) (λcdv A outer s H us Q E hr h=>?_)
 ·walk_at "l"
 ·obtain ⟨r,l,s,ts,i,m,t,vs,rfl,hmn,hR,hE,ht,hSc,q⟩:=h;have hr4:cI 4 _:=hr.mono hk;have hr2:cI 2 _:=hr4.mono (by decide);have hr1:cI 1 _:=hr4.mono (by decide)
  refine ⟨_,aM (bC (aT bV (pv 2) (pgi N.dp) (aY _)) (aE (cK (k:=0) T rfl dB hr2 (pgi N.tm) (aJ (c6 (pv 0) RC.cl G1.me O1 hr1 G1.bd .nil aR) rfl))) aV)
   (aM (aQ (i:=3) zA.nd rfl (Or.inl rfl) (bA (pv 0) RC.cl G2.me O2 hr4 G2.bd .nil cO (a9 (pgi N.al.ng.wd) aC)))
   (aM (aQ (i:=4) zA.nd rfl (Or.inl rfl) (bA (pv 0) RC.cl G3.me O3 hr2 G3.bd .nil aR (a9 dU aC)))
   (aM (bC (PW.pt (kO (aT bV (aJ (pv 3) rfl) dU (aY _)) (iJ (PW.pt (jZ (cE (pv 4)) (gV (aT (BJ pd) (aJ (pv 3) rfl) (pgr pm) (by with_unfolding_all rfl))))))))
    (aM (aQ (i:=5) zA.nd rfl (Or.inl rfl) (aS OP hr (by rfl) GP.at_ GP.fn.kp GP.bd .nil cO (a9 (pv 0) (a9 (pv 1) (a9 (RK pd (pgr pm) (aJ (pv 3) rfl) (by first|exact λ_ _=>rfl|trivial|rfl)) (a9 (b7 dJ (pv 2) aF) aC))))))
    (aE (aP (aS O4 hr1 (by rfl) G4.at_ G4.fn.kp G4.bd .nil aR (a9 (aJ (pv 3) rfl) (a9 (pv 5) (a9 (aJ (pv 1) rfl) aC))))))) aV)
   (aM (bC (PW.pt (jZ (cE (pv 4)) (gV (cE (aS O6 hr1 (by rfl) G6.at_ G6.fn.kp G6.bd .nil aR (a9 (pv 3) aC)))))) (aE (cK (k:=0) T rfl dB hr2 (pgi N.tk.na) (aJ (pv 3) rfl))) aV)
   (aE (aP (aS O5 (hr4.mono (by decide)) (by rfl) G5.at_ G5.fn.kp G5.bd .nil cO (a9 (pv 3) (a9 (pv 1) aC))))))))),?_⟩
  obtain ⟨dx,hr0⟩:=hR.rd
  let σ0:Option V->Option V->Option V->L2.St:=λx y z=>[some (.ref r),some (.ref s),some (.int (m:Nat)),x,y,z]
  refine ⟨λσ' H'=>σ'=σ0 none none none/\H'=H/\∃ n',n=n'+1,?_,?_⟩
  ·refine ⟨_,rfl,rfl,_,rfl,?_⟩
   show if decide (V.int _=V.int _)=true then _ else _
   rw[cV]
   by_cases h:m=24
   ·rw[if_pos (decide_eq_true (by lia))];obtain rfl:n=0:=by lia
    refine ⟨_,rfl,r,dx,_,rfl,hr0,fB.1,r,l,ts,i,t,rfl,hR,ht,λa ⟨bh,da,ea⟩=>⟨a,CT,da,_,_,rfl,ea,TK.cl,TK.nP,eE _ _ _ _,_,_,rfl,rfl,?_⟩⟩;rw[takeForm,(eY ht).2] at q;exact Flt.to q aH.refl
   ·rw[if_neg (by simp only[decide_eq_true_eq];lia)];exact ⟨rfl,rfl,n-1,by lia⟩
  ·rintro σ1 H1 ⟨rfl,rfl,n',rfl⟩;obtain rfl:=hsp n' rfl;refine ⟨λσ' H'=>∃ (a:Addr) (p:Nat) (b:Bytes),t=⟨p,.name b⟩/\σ'=σ0 (some (.ref a)) none none/\dC CT H' a t/\c7 CR CT H' r l ts (i+1)/\aH [r] H1 H',?_,?_⟩
   ·refine ⟨_,rfl,r,dx,_,rfl,hr0,fB.2.2.2.2.2.1,r,l,ts,i,t,1,rfl,hR,ht,?_⟩;unfold dR;rw[fV ht] at q;obtain ⟨p,tt⟩:=t
    cases tt with
    | name b=>
     rw[if_pos (by simp[fO])]
     exact λa H' ha hR' kp=>⟨a,p,b,rfl,rfl,ha,hR',kp⟩
    | num b=>
     rw[if_neg (by simp[fO])];rw[i5 _ _ _ _ _ (by intro _ z;cases z)] at q;exact Flt.to q aH.refl
    | sign b=>
     rw[if_neg (by simp[fO])];rw[i5 _ _ _ _ _ (by intro _ z;cases z)] at q;exact Flt.to q aH.refl
    | halt_=>
     rw[if_neg (by simp[fO])];rw[i5 _ _ _ _ _ (by intro _ z;cases z)] at q;exact Flt.to q aH.refl
   ·rintro σ2 H2 ⟨a,p,b,rfl,rfl,ha2,hR2,k2⟩;obtain ⟨t1,ht1⟩:=cX hE ht (by intro z;cases z);obtain ⟨dx2,hr2'⟩:=hR2.rd;have hSc2:=hSc.keepR hr0 N.nc k2;have c40:("(" : Str)=⟨#[40]⟩:=by decide +kernel
    obtain ⟨op,hop⟩:∃ op,decide (t1.tok=.sign 40)=op:=⟨_,rfl⟩
    have hnx:next (.sign 40) (ts.drop (i+1))=op:=by rw[iV ht1,hop]
    rw[fV ht] at q;refine ⟨λσ' H'=>σ'=σ0 (some (.ref a)) (some (.bl op)) none/\H'=H2,?_,?_⟩
    ·refine ⟨_,rfl,r,dx2,_,rfl,hr2',fB.2.1,r,l,ts,i+1,t1,40,by decide,by rw[c40];rfl,hR2,ht1,?_⟩;rw[hop];exact ⟨rfl,rfl⟩
    ·rintro σ3 H3 ⟨rfl,rfl⟩;obtain ⟨bh,da,ea⟩:=id ha2;obtain ⟨ds,d,kvs,hs3,hd3,htb⟩:=id hSc2;refine ⟨λσ' H'=>σ'=σ0 (some (.ref a)) (some (.bl op)) none/\H'=H3/\¬ b=word "if" /\ (op=true->cG b=none),?_,?_⟩
     ·refine ⟨_,rfl,a,CT,da,_,_,rfl,ea,TK.cl,TK.nS,cT _ _ _ _,rfl,_,rfl,?_⟩
      show if decide (V.str (cB b)=V.str _)=true then _ else _
      rw[qR,sIf,weq]
      by_cases hif:b=word "if"
      ·rw[if_pos (decide_eq_true hif)]
       obtain ⟨k0,hpc⟩:∃ k0,cG b=some k0:=⟨3,by rw[hif];decide +kernel⟩
       have ho:b=word "if" ∨ next (.sign 40) (ts.drop (i+1))=true:=.inl hif
       show QU _ _ _ _ _
       walk_at "fb"
      ·rw[if_neg (by simp[hif])];refine ⟨_,rfl,_,rfl,?_⟩
       cases op with
       | false=>exact ⟨rfl,rfl,hif,λz=>by cases z⟩
       | true=>
        refine ⟨_,rfl,a,CT,da,_,_,rfl,ea,TK.cl,TK.nS,cT _ _ _ _,.inr (cB b),rfl,rfl,_,rfl,?_⟩;rw[BL]
        cases hpc:cG b with
        | none=>exact ⟨rfl,rfl,hif,λ_=>rfl⟩
        | some k0=>
         have ho:b=word "if" ∨ next (.sign 40) (ts.drop (i+1))=true:=.inr hnx
         show QU _ _ _ _ _;generalize true=op
         walk_at "fb"
     ·rintro σ4 H4 ⟨rfl,rfl,hif,hpc⟩;refine ⟨λσ' H'=>σ'=σ0 (some (.ref a)) (some (.bl op)) none/\H'=H4/\(op=true->RESERVED.contains b=true),?_,?_⟩
      ·refine ⟨_,rfl,_,rfl,?_⟩
       cases op with
       | false=>exact ⟨rfl,rfl,λz=>by cases z⟩
       | true=>
        refine ⟨_,rfl,a,⟨p,.name b⟩,rfl,ha2,_,rfl,?_⟩
        show if (!RESERVED.contains b)=true then _ else _
        cases hb:RESERVED.contains b with
        | true=>exact ⟨rfl,rfl,λ_=>rfl⟩
        | false=>
         rw[w6 vs n' p _ b (hpc rfl) hnx hb] at q;exact ⟨_,rfl,a,CT,da,_,_,rfl,ea,TK.cl,TK.nP,eE _ _ _ _,_,_,rfl,rfl,Flt.to q k2⟩
      ·rintro σ5 H5 ⟨rfl,rfl,hrs⟩;refine ⟨_,rfl,_,rfl,a,s,p,b,vs.map (·.name),rfl,ha2,hSc2,?_⟩
       have hal:=vL vs n' p (ts.drop (i+1)) b hif (by
        rw[hnx]
        cases op with
        | false=>exact .inl rfl
        | true=>exact .inr (hrs rfl))
       cases ea:tN (vs.map (·.name)) b with
       | error c=>
        rw[ea] at hal;have hal:takeForm vs (n'+1) (⟨p,.name b⟩::ts.drop (i+1))=.error ⟨c,p⟩:=hal;rw[hal] at q;exact Flt.to q k2
       | ok tb=>
        rw[ea] at hal;obtain ⟨ff,h1,h2⟩:=hal;rw[h1] at q;rw[← h2];exact q (i+1) t1 _ rfl ht1 hR2 k2
theorem GF {C CR CT CS f:Addr}{fd:FuncData}(N:AD P w K mg C CR CT CS)(PC:∃ a,mg "PART_COUNTS" = some (.ref a)/\xQ P w K a nQ)(F:Def K mg "read_formula" uW ["reader","scope","inside"] f fd):
  ∀ n,aN P w K mg base (CXF P w C) (5+2*n) f fd ["reader","scope","inside"] (rN C CR CT CS n)
 | 0=>by
  obtain ⟨gP,dP,GP⟩:=N.parts;have OP:aN P w K mg base (CXF P w C) 4 gP dP ["reader","scope","how_many","inside"] (λ_ _ _ _=>False):=GP.fn.okX zE (λus H Q E h=>h.elim) (λcdv A outer s H us Q E hr h=>h.elim);exact wK (Nat.le_refl _) N PC F GP _ OP λn' z=>by cases z
 | n+1=>by
  obtain ⟨gP,dP,GP⟩:=N.parts;have ih:aN P w K mg base (CXF P w C) (5+2*n) f fd ["reader","scope","inside"] (rN C CR CT CS n):=GF N PC F n;have OP:=M6 (k:=5+2*n) (by lia) N F ih GP
  exact wK (k:=5+2*n+1) (by lia) N PC F GP _ OP λn' z=>by
   have:n=n':=by lia
   rw[this]
abbrev BX:Stmt:=top 67
structure R6 (P:Program)(w:World)(K:PySem.W.Frag)(mg:Str->Option Value)(base:Heap)(C CR CT CS:Addr):Prop where
 fg:AD P w K mg C CR CT CS
 pc:∃ a,mg "PART_COUNTS" = some (.ref a)/\xQ P w K a nQ
 form:∃ f fd,Def K mg "read_formula" uW ["reader","scope","inside"] f fd
 sg:KK K mg
 en:GI mg "END" 4
 ini:∃ f fd,xT K CR f fd
 toks:∃ g gd,Def K mg "tokens_of" eQ ["text"] g gd/\aN P w K mg base (CXF P w C) 5 g gd ["text"] (rQ K C CT)
inductive EM (K:PySem.W.Frag) (C:Addr) (us:List V) (H:Hp) (Q:VK) (E:XK):Prop
 | mk:∀ (a nl:Addr) (bs:List UInt8) (vs:List Var),us=[.ref a,.ref nl]->TxL K H a bs->bs.length<=8192->H nl=some (.lst (nmV (vs.map (·.name))))->(vs.map (·.name)).Nodup->vs.length<=12->(match Vaprbg.readForm vs bs with
  | .error f=>Flt C E [] H f.code f.place
  | .ok f=>∀ H':Hp,aH [] H H'->Q (.int (dZ vs.length f:Nat)) H')->EM K C us H Q E
theorem EI:aO ["text","names","reader","table"] ["text","names"] (aI BX):=by walk_at "s"
theorem PF {C CR CT CS f:Addr}{fd:FuncData}(N:R6 P w K mg base C CR CT CS)(F:Def K mg "function_of" BX ["text","names"] f fd):aN P w K mg base (CXF P w C) 54 f fd ["text","names"] (EM K C):=by
 obtain ⟨g1,d1,G1⟩:=N.ini;obtain ⟨g2,d2,G2,O2⟩:=N.toks;obtain ⟨g3,d3,G3⟩:=N.form;obtain ⟨g4,d4,G4⟩:=N.fg.tk.R.tKind;obtain ⟨fS,sd,SC⟩:=N.fg.al.SC;have RC:=N.fg.tk.R;have O1:aN P w K mg base (CXF P w C) 6 g1 d1 ["self","text"] (t6 K C CR CT):=BF N.fg.tk.nc RC G1 G2 O2;have O3:aN P w K mg base (CXF P w C) 53 g3 d3 ["reader","scope","inside"] (rN C CR CT CS 24):=GF N.fg N.pc G3 24;have O4:aN P w K mg base (CXF P w C) 4 g4 d4 ["self","kind"] (mM C CR CT):=pG N.fg.tk G4;have O5:aN P w K mg base CX0 2 fS sd ["self","names"] (zU CS):=M7 SC N.sg;refine F.fn.okX EI (λus H Q E h=>?_) (λcdv A outer s H us Q E hr h=>?_)
 ·walk_at "l"
 ·obtain ⟨a,nl,bs,vs,rfl,hS,h8,hn,nd,h12,q⟩:=h
  refine ⟨_,aM (aQ (i:=2) EI.nd rfl (Or.inl rfl) (cD G1.mak O1 (hr.mono (by decide)) (by rfl) RC.at_ G1.bd .nil cO (a9 (pv 0) aC)))
   (aM (aQ (i:=3) EI.nd rfl (Or.inl rfl) (aS O3 hr (by rfl) G3.at_ G3.fn.kp G3.bd .nil cO (a9 (pv 2) (a9 (cD SC.mak O5 (hr.mono (by decide)) (by rfl) SC.at_ SC.bd .nil aR (a9 (pv 1) aC)) (a9 aF aC)))))
   (aM (bE (bA (pv 2) RC.cl G4.me O4 (hr.mono (by decide)) G4.bd .nil cO (a9 (pgi N.en) aC)))
   (aE (aP (pv 3))))),?_⟩
  unfold Vaprbg.readForm at q;refine ⟨λσ' H'=>∃ (ts:Toks) (r l:Addr),tokens bs=.ok ts/\σ'=[some (.ref a),some (.ref nl),some (.ref r),none]/\c7 CR CT H' r l ts 0/\H r=none/\aH [] H H',?_,?_⟩
  ·refine ⟨_,rfl,λr dr hr0 hd0 ne=>?_⟩;have kk:aH [] H (upd (upd H dr (.own r)) r (.ins CR dr [])):=λc o z _=>by rw[aB (aD z hr0),aB (aD z hd0)];exact z
   refine ⟨r,a,dr,bs,rfl,aA,kk.seq (by simp) hS,h8,?_⟩
   cases ht:tokens bs with
   | error f=>
    rw[ht] at q;exact Flt.keep q kk
   | ok ts=>
    intro l H1 hR1 k1;exact ⟨rfl,ts,r,l,rfl,rfl,hR1,hr0,λc o z _=>k1 c o (kk c o z (by simp)) (by simpa using aD z hr0)⟩
  ·rintro σ1 H1 ⟨ts,r,l,ht,rfl,hR1,hr0,k1⟩;obtain ⟨dx1,hr1⟩:=hR1.rd;have hE:=qI ht;rw[ht] at q
   have q:(match (Except.bind (takeForm vs 24 (ts.drop 0)) λx=>if next .halt_ x.2=true then .ok x.1 else wrong x.2:Except Fault Form) with
    | .error f=>Flt C E [] H f.code f.place
    | .ok f=>∀ H':Hp,aH [] H H'->Q (.int (dZ vs.length f:Nat)) H'):=q
   have e0:∃ t0,ts[0]?=some t0:=by
    obtain ⟨i,p,rfl,_⟩:=hE
    cases i with
    | nil=>exact ⟨_,rfl⟩
    | cons x i=>exact ⟨_,rfl⟩
   obtain ⟨t0,ht0⟩:=e0;have fr:∀ H',aH [r] H1 H'->aH [] H H':=λH' k=>aH.fresh (S':=[r]) ((k1.mono (by simp)).trans k) (by simp[hr0]);refine ⟨λσ' H'=>∃ (ff:Form) (i:Nat) (t:PTok),takeForm vs 24 (ts.drop 0)=.ok (ff,ts.drop i)/\ts[i]?=some t/\σ'=[some (.ref a),some (.ref nl),some (.ref r),some (.int (dZ vs.length ff:Nat))]/\c7 CR CT H' r l ts i/\aH [r] H1 H',?_,?_⟩
   ·refine ⟨_,rfl,_,rfl,λsc dc hs0 hd0 ne=>?_⟩;have kk:aH [] H1 (upd (upd H1 dc (.own sc)) sc (.ins CS dc [])):=λc o z _=>by rw[aB (aD z hs0),aB (aD z hd0)];exact z
    refine ⟨sc,nl,dc,vs.map (·.name),rfl,aA,kk _ _ (k1 _ _ hn (by simp)) (by simp),nd,by rw[List.length_map];exact h12,λH2 hSc k2=>⟨rfl,?_⟩⟩;have k12:aH [] H1 H2:=λc o z _=>k2 c o (kk c o z (by simp)) (by simpa using aD z hs0);refine ⟨r,l,sc,ts,0,0,t0,vs,rfl,rfl,hR1.keeps k12,hE,ht0,hSc,?_⟩;unfold xP
    cases ef:takeForm vs 24 (ts.drop 0) with
    | error f=>
     rw[ef] at q;exact λe od H' f k=>q e od H' f (fr H' ((k12.mono (by simp)).trans k))
    | ok x=>
     obtain ⟨ff,l'⟩:=x;intro i' t' H3 e1 e2 hR3 k3;subst e1;exact ⟨ff,i',t',rfl,e2,rfl,hR3,(k12.mono (by simp)).trans k3⟩
   ·rintro σ2 H2 ⟨ff,i,t,ef,ht2,rfl,hR2,k2⟩;obtain ⟨dx2,hr2⟩:=hR2.rd;rw[ef] at q
    have q:(match (if next .halt_ (ts.drop i)=true then .ok ff else wrong (ts.drop i):Except Fault Form) with
     | .error f=>Flt C E [] H f.code f.place
     | .ok f=>∀ H':Hp,aH [] H H'->Q (.int (dZ vs.length f:Nat)) H'):=q
    rw[iV ht2] at q;refine ⟨λσ' H'=>σ'=[some (.ref a),some (.ref nl),some (.ref r),some (.int (dZ vs.length ff:Nat))]/\aH [r] H1 H'/\decide (t.tok=.halt_)=true,?_,?_⟩
    ·refine ⟨_,rfl,r,dx2,_,rfl,hr2,fB.2.2.2.2.2.1,r,l,ts,i,t,4,rfl,hR2,ht2,?_⟩;unfold dR;rw[wT]
     cases hh:decide (t.tok=.halt_) with
     | true=>exact λb H' _ _ kp=>⟨rfl,k2.trans kp,rfl⟩
     | false=>
      rw[hh] at q;have q:Flt C E [] H 3 (here (ts.drop i)):=q;rw[(eY ht2).2] at q;exact λe od H' f k=>q e od H' f (fr H' (k2.trans (k.mono (by simp))))
    ·rintro σ3 H3 ⟨rfl,k3,hh⟩;rw[hh] at q;exact ⟨_,rfl,q H3 (fr H3 k3)⟩
end
end TC
namespace TC
open PySem PySem.Spec PyProof.Rows L2 XF VaprbBase Mth
def eO (K:PySem.W.Frag)(H:Hp)(b:Addr)(ks:List Key):Prop:=H b=some (.tup (ks.map kV))∨∃ (o:Obj) (its:Array Value) (n:Nat),K.lookup b=some o/\o.cls=.type "tuple" /\ o.data=.seq its n/\its.size<=sizeLine/\bH (ks.map kV) its.toList
theorem eO.sq {K:PySem.W.Frag}{H:Hp}{b:Addr}{ks:List Key}(h:eO K H b ks):SqT K H b (ks.map kV):=h.elim (λz=>.inl (.inl z)) .inr
section
variable {X:Cx}{pins:List (Addr×Obj)}{σ:L2.St}{H:Hp}{s:Shared}{a b:Addr}{A:Around}{E:Value->Shared->Prop}{ks:List Key}{kvs:List (List Key×V)}{v:V}
theorem RG (I:Inv X pins σ H s)(h:eO X.K H b ks):(tupleKind (cM X.prog X.w)).is s.heap ks b:=by
 rcases h with h|⟨o,its,n,h1,h2,h3,h4,h5⟩
 ·exact u9 I.hok h
 ·exact ⟨o,its,n,I.kIn _ _ h1,h2,h3,by simpa using qU h5⟩
theorem L8 {Q:Value->Shared->Prop}(hu:A.units+1<cLine)(I:Inv X pins σ H s)(e:H a=some (.dT kvs))(g:eO X.K H b ks)(h:∀ s',Inv X pins σ H s'->Q (.bool (!(dO kvs ks).isSome)) s'):
  wpAny (model X.prog X.w) A (compareOp .NotIn (.ref b) (.ref a)) Q E s:=by
 obtain ⟨z,hd,xs,rel,dd⟩:=tT I.hok (.inl e);refine wpAny_notIn_heap (tupleKind_room_in1 hu) (RG I g) hd dd ?_;have q:=(rel.val ks).isSome_eq;rw[Option.isSome_map] at q;rw[← q];exact h _ (I.tok _)
theorem DH {Q:Value->Shared->Prop}(hu:A.units+1<cLine)(I:Inv X pins σ H s)(e:H a=some (.dT kvs))(g:eO X.K H b ks)(l:dO kvs ks=some v)(h:∀ w' s',Inv X pins σ H s'->bP v w'->Q w' s'):
  wpAny (model X.prog X.w) A (getItem (.ref a) (.ref b)) Q E s:=by
 obtain ⟨z,hd,xs,rel,dd⟩:=tT I.hok (.inl e);obtain ⟨w',hw,rw'⟩:=gM.some_of (v:=v) (o:=(atKey xs ks).map (·.2)) (by rw[← l];exact rel.val ks);obtain ⟨p,hp,hp2⟩:=Option.map_eq_some_iff.mp hw;refine wpAny_getItem_heap (tupleKind_room_in1 hu) (RG I g) dd hp ?_;rw[hp2];exact h w' _ (I.tok _) rw'
end
def QX (K:PySem.W.Frag)(ty td:TE):TE:=λσ H Q=>ty σ H λy H1=>td σ H1 λx H2=>∃ (a b:Addr) (kvs:List (List Key×V)) (ks:List Key),x=.ref a/\y=.ref b/\H2 a=some (.dT kvs)/\eO K H2 b ks/\Q (.bl (!(dO kvs ks).isSome)) H2
def WN (K:PySem.W.Frag)(td ty:TE):TE:=λσ H Q=>td σ H λx H1=>ty σ H1 λy H2=>∃ (a b:Addr) (kvs:List (List Key×V)) (ks:List Key) (v:V),x=.ref a/\y=.ref b/\H2 a=some (.dT kvs)/\eO K H2 b ks/\dO kvs ks=some v/\Q v H2
section
variable {X:Cx}{o i:Expr}{pos:Pos}{td ty:TE}
theorem xB (hu:X.A.units+1<cLine)(hi:PE X i ty)(ho:PE X o td):PC X .NotIn i o (QX X.K ty td):=by
 intro pins s σ H Q I h;refine thn (hi pins s σ H _ I h) λiv s1 ⟨y,H1,I1,ry,q1⟩=>thn (ho pins s1 σ H1 _ I1 q1) λu s2 ⟨x,H2,I2,rx,a,b,kvs,ks,ex,ey,e,g,q2⟩=>?_;subst ex ey;obtain rfl:u=Value.ref a:=rx;obtain rfl:iv=Value.ref b:=ry
 exact L8 hu I2 e g λs3 I3=>⟨.bl (!(dO kvs ks).isSome),H2,I3,rfl,q2⟩
theorem GV (hu:X.A.units+1<cLine)(ho:PE X o td)(hi:PE X i ty)(hs:OG i):PE X (.Subscript o i pos) (WN X.K td ty):=by
 intro pins s σ H Q I h;refine zY PySem.F.slot_dict_getitem.lookup hs (thn (ho pins s σ H _ I h) λu s1 ⟨x,H1,I1,rx,q1⟩=>thn (hi pins s1 σ H1 _ I1 q1) λiv s2 ⟨y,H2,I2,ry,a,b,kvs,ks,v,ex,ey,e,g,l,q2⟩=>?_);subst ex ey;obtain rfl:u=Value.ref a:=rx;obtain rfl:iv=Value.ref b:=ry
 have ti:s2.TypeIs (.ref a) "dict" := by
  obtain ⟨_,_,xs,_,dd⟩:=tT I2.hok (.inl e);exact dd.typeIs
 exact ⟨ti,DH hu I2 e g l λw' s3 I3 rw'=>⟨v,H2,I3,rw',q2⟩⟩
end
end TC
namespace TC
open PySem PySem.Spec PyProof.Rows L2 XF VaprbBase Mth Vaprbi
def cR:CNode->List Key
 | .const f=>[.inl 0,.inl f.num,.inl (f.den:Nat)]
 | .yes v=>[.inl 1,.inl (v:Nat)]
 | .no v=>[.inl 2,.inl (v:Nat)]
 | .add a b=>[.inl 3,.inl (a:Nat),.inl (b:Nat)]
 | .mul a b=>[.inl 4,.inl (a:Nat),.inl (b:Nat)]
theorem J1 {m n:CNode}(h:cR m=cR n):m=n:=by
 cases m<;>cases n<;>simp[cR] at h
 ·rename_i f g;obtain ⟨n1,d1⟩:=f;obtain ⟨n2,d2⟩:=g;simp at h;obtain ⟨rfl,h2⟩:=h
  have:d1=d2:=by lia
  rw[this]
 ·congr 1;lia
 ·congr 1;lia
 ·obtain ⟨h1,h2⟩:=h;congr 1<;>lia
 ·obtain ⟨h1,h2⟩:=h;congr 1<;>lia
def mkF (hm:Int)(nl pl md:Addr):List (Str×V):=[("how_many",.int hm),("nodes",.ref nl),("places",.ref pl),("made",.ref md)]
theorem RJ (hm:Int)(nl pl md:Addr):(mkF hm nl pl md).lookup ("how_many" : Str)=some (.int hm):=rfl
theorem eX (hm:Int)(nl pl md:Addr):(mkF hm nl pl md).lookup ("nodes" : Str)=some (.ref nl):=by with_unfolding_all rfl
theorem qV (hm:Int)(nl pl md:Addr):(mkF hm nl pl md).lookup ("places" : Str)=some (.ref pl):=by with_unfolding_all rfl
theorem yI (hm:Int)(nl pl md:Addr):(mkF hm nl pl md).lookup ("made" : Str)=some (.ref md):=by with_unfolding_all rfl
structure eS (K:PySem.W.Frag)(CM:Addr)(H:Hp)(m nl pl md:Addr)(hm:Nat)(c:Circuit)(mk:List (List Key×V)):Prop where
 ob:∃ dx,H m=some (.ins CM dx (mkF (hm:Nat) nl pl md))
 nds:∃ as:List Addr,H nl=some (.lst (as.map V.ref))/\Paired (λa n=>eO K H a (cR n)) as c
 pls:∃ kvs,H pl=some (.dT kvs)/\kvs.length<=c.length/\∀ n,dO kvs (cR n)=(c.findIdx? (λx=>x==n)).map λi=>V.int (i:Nat)
 mds:H md=some (.dT mk)
 ne:pl≠md
theorem eO.keep {K:PySem.W.Frag}{H H':Hp}{S:List Addr}{b:Addr}{ks:List Key}(h:eO K H b ks)(k:aH S H H')(n:∀ x∈S,∀ xs,H x≠some (.tup xs)):eO K H' b ks:=by
 rcases h with h|h
 ·exact .inl (k _ _ h λz=>n b z _ h)
 ·exact .inr h
theorem eO.upd {K:PySem.W.Frag}{H:Hp}{x b:Addr}{o o':HO}{ks:List Key}(h:eO K H b ks)(hx:H x=some o)(ho:∀ xs,o≠.tup xs):eO K (upd H x o') b ks:=by
 rcases h with h|h
 ·refine .inl ?_;rw[aB (bI h hx (λz=>ho _ z.symm))];exact h
 ·exact .inr h
theorem tW {c:Circuit}{n:CNode}(h:n∉c)(x:CNode):(c++[n]).findIdx? (λy=>y==x)=if x=n then some c.length else c.findIdx? (λy=>y==x):=by
 rw[List.findIdx?_append]
 by_cases e:x=n
 ·subst e
  have:c.findIdx? (λy=>y==x)=none:=List.findIdx?_eq_none_iff.mpr λy hy=>by
   have:y≠x:=λz=>h (z▸hy)
   simpa using this
  rw[this,if_pos rfl];simp[List.findIdx?_cons]
 ·rw[if_neg e]
  have:([n]:Circuit).findIdx? (λy=>y==x)=none:=List.findIdx?_eq_none_iff.mpr λy hy=>by
   have:y=n:=by simpa using hy
   subst this;simpa using λz=>e z.symm
  rw[this];cases c.findIdx? (λy=>y==x)<;>rfl
theorem oX {c:Circuit}{n:CNode}:(c.findIdx? (λy=>y==n)).isSome=true↔n∈c:=by
 constructor
 ·intro h;obtain ⟨i,hi⟩:=Option.isSome_iff_exists.mp h;obtain ⟨hl,e,_⟩:=List.findIdx?_eq_some_iff_getElem.mp hi;have e:c[i]=n:=by simpa using e
  exact e▸List.getElem_mem hl
 ·intro h
  cases e:c.findIdx? (λy=>y==n) with
  | some i=>rfl
  | none=>
   have:=List.findIdx?_eq_none_iff.mp e n h
   simp at this
abbrev sMk (j:Nat):Stmt:=eW (top 9) j
structure OF (K:PySem.W.Frag)(mg:Str->Option Value)(CM:Addr):Prop where
 cl:Cls K CM
 nH:aZ K CM "how_many"
 nN:aZ K CM "nodes"
 nP:aZ K CM "places"
 nM:aZ K CM "made"
 at_:mg "Maker" = some (.ref CM)
 len:mg "len" = none
section
variable {P:Program}{w:World}{K:PySem.W.Frag}{mg:Str->Option Value}{base:Heap}
inductive vD (K:PySem.W.Frag) (CM:Addr) (us:List V) (H:Hp) (Q:VK) (E:XK):Prop
 | mk:∀ (m b nl pl md:Addr) (hm:Nat) (c:Circuit) (mk:List (List Key×V)) (n:CNode),us=[.ref m,.ref b]->eS K CM H m nl pl md hm c mk->c.length<1000000->eO K H b (cR n)->(n∈c∨H b=some (.tup ((cR n).map kV)))->(∀ H',eS K CM H' m nl pl md hm (put c n).1 mk->aH [nl,pl] H H'->Q (.int ((put c n).2:Nat)) H')->vD K CM us H Q E
theorem WF:aO ["self","node"] ["self","node"] (aI (sMk 1)):=by walk_at "s"
theorem uJ {CM f:Addr}{fd:FuncData}(N:OF K mg CM)(F:bN K CM "put" "Maker.put" (sMk 1) ["self","node"] f fd):aN P w K mg base CX0 1 f fd ["self","node"] (vD K CM):=by
 refine F.fn.ok WF (λus H Q E h=>?_) (λcdv A outer s H us Q E hr h=>?_)
 ·walk_at "l"
 ·obtain ⟨m,b,nl,pl,md,hm,c,mk,n,rfl,hM,hcl,hb,hin,q⟩:=h
  refine ⟨_,aM (bC (E3 (xB (kI hr) (pv 1) (aJ (pv 0) rfl)))
   (aM (yT (kI hr) (aJ (pv 0) rfl) (pv 1) (b9 aU (by rfl) N.len PySem.boot_len (a9 (aJ (pv 0) rfl) aC)) rfl)
    (aE (bE (iB PySem.F.plainAttrs_list PySem.F.slot_list_append PySem.F.type_list_append dG (aJ (pv 0) rfl) (a9 (pv 1) aC))))) aV)
   (aE (aP (GV (kI hr) (aJ (pv 0) rfl) (pv 1) (by first|exact λ_ _=>rfl|trivial|rfl)))),?_⟩
  obtain ⟨⟨dx,hm0⟩,⟨as,hn0,hp0⟩,⟨kvs,hk0,hkl,hkv⟩,hd0,ne⟩:=id hM;have nnp:nl≠pl:=bI hn0 hk0 (by intro z;cases z);have las:as.length=c.length:=bB hp0;refine ⟨λσ' H'=>σ'=[some (.ref m),some (.ref b)]/\eS K CM H' m nl pl md hm (put c n).1 mk/\aH [nl,pl] H H'/\eO K H' b (cR n),?_,?_⟩
  ·refine ⟨_,rfl,_,rfl,m,CM,dx,_,_,rfl,hm0,N.cl,N.nP,qV _ _ _ _,pl,b,kvs,cR n,rfl,rfl,hk0,hb,_,rfl,?_⟩;rw[hkv,Option.isSome_map]
   by_cases hc:n∈c
   ·rw[oX.mpr hc]
    have e:(put c n).1=c:=by
     unfold put
     cases h:c.findIdx? (λm=>m==n) with
     | some i=>rfl
     | none=>
      have:=oX.mpr hc
      rw[h] at this;cases this
    exact ⟨rfl,by rw[e];exact hM,aH.refl,hb⟩
   ·have hf:(c.findIdx? (λy=>y==n)).isSome=false:=by
     cases h:(c.findIdx? (λy=>y==n)).isSome with
     | false=>rfl
     | true=>exact absurd (oX.mp h) hc
    rw[hf];show QU _ _ _ _ _;have hbt:=hin.resolve_left hc;have e:(put c n).1=c++[n]:=by rw[pQ hc]
    refine ⟨λσ' H'=>σ'=[some (.ref m),some (.ref b)]/\H'=upd H pl (.dT (jY kvs (cR n) (.int (c.length:Nat)))),?_,?_⟩
    ·refine ⟨_,rfl,m,CM,dx,_,_,rfl,hm0,N.cl,N.nN,eX _ _ _ _,nl,_,rfl,.inl (SqL.of hn0),_,rfl,m,CM,dx,_,_,rfl,hm0,N.cl,N.nP,qV _ _ _ _,_,rfl,pl,_,rfl,xN.t hk0 hbt (by rw[sizeLine_eq];lia),rfl,?_⟩;rw[List.length_map,las]
    ·rintro σ1 H1 ⟨rfl,rfl⟩;have hm1:(upd H pl (.dT (jY kvs (cR n) (.int (c.length:Nat))))) m=some (.ins CM dx (mkF (hm:Nat) nl pl md)):=by rw[aB (bI hm0 hk0 (by intro z;cases z))];exact hm0
     have hn1:(upd H pl (.dT (jY kvs (cR n) (.int (c.length:Nat))))) nl=some (.lst (as.map V.ref)):=by rw[aB nnp];exact hn0
     have kt:∀ {x:Addr} {ks:List Key},eO K H x ks->eO K (upd (upd H pl (.dT (jY kvs (cR n) (.int (c.length:Nat))))) nl (.lst (as.map V.ref++[.ref b]))) x ks:=λz=>(z.upd hk0 (by intro xs z;cases z)).upd hn1 (by intro xs z;cases z);refine ⟨_,rfl,m,CM,dx,_,_,rfl,hm1,N.cl,N.nN,eX _ _ _ _,.inl ⟨rfl,_,SqL.of hn1⟩,_,rfl,nl,_,_,rfl,rfl,hn1,by rw[List.length_map,las,sizeLine_eq];lia,rfl,?_,λx o z nx=>?_,kt hb⟩
     ·rw[e];refine ⟨⟨dx,by rw[aB (bI hm1 hn1 (by intro z;cases z))];exact hm1⟩,⟨as++[b],by rw[aA,List.map_append];rfl,Paired.snoc (Paired.mapP hp0 λx y z=>kt z) (kt hb)⟩,⟨_,by rw[aB (Ne.symm nnp),aA],?_,λx=>?_⟩,?_,ne⟩
      ·have:=fX kvs (cR n) (.int (c.length:Nat))
       rw[List.length_append,List.length_singleton];lia
      ·rw[qL,tW hc,hkv]
       by_cases ex:x=n
       ·rw[if_pos (by rw[ex]),if_pos ex];rfl
       ·rw[if_neg (λz=>ex (J1 z)),if_neg ex]
      ·rw[aB (bI hd0 hn0 (by intro z;cases z)),aB (Ne.symm ne)];exact hd0
     ·have n1:x≠nl:=λy=>nx (by simp[y]);have n2:x≠pl:=λy=>nx (by simp[y]);rw[aB n1,aB n2];exact z
  ·rintro σ1 H1 ⟨rfl,hM1,k1,hb1⟩;obtain ⟨⟨dx1,hm1⟩,_,⟨kvs1,hk1,_,hkv1⟩,_,_⟩:=id hM1;refine ⟨_,rfl,m,CM,dx1,_,_,rfl,hm1,N.cl,N.nP,qV _ _ _ _,_,rfl,pl,b,kvs1,cR n,_,rfl,rfl,hk1,hb1,?_,q H1 hM1 k1⟩;rw[hkv1];unfold put
   cases h:c.findIdx? (λm=>m==n) with
   | some i=>
    show Option.map _ (c.findIdx? (λx=>x==n))=_;rw[h];rfl
   | none=>
    have hc:n∉c:=λz=>by
     have:=oX.mpr z
     rw[h] at this;cases this
    show Option.map _ ((c++[n]).findIdx? (λx=>x==n))=_;rw[tW hc,if_pos rfl];rfl
def fY:CNode->PyData
 | .const f=>.tuple [.int 0,.int f.num,.int (f.den:Nat)]
 | .yes v=>.tuple [.int 1,.int (v:Nat)]
 | .no v=>.tuple [.int 2,.int (v:Nat)]
 | .add a b=>.tuple [.int 3,.int (a:Nat),.int (b:Nat)]
 | .mul a b=>.tuple [.int 4,.int (a:Nat),.int (b:Nat)]
theorem eG {K:PySem.W.Frag}{H:Hp}{a:Addr}{n:CNode}(h:eO K H a (cR n)):Dp K H (.ref a) (fY n):=by
 cases n with
 | const f=>exact .tup h.sq (.cons (.int _) (.cons (.int _) (.cons (.int _) .nil)))
 | yes v=>exact .tup h.sq (.cons (.int _) (.cons (.int _) .nil))
 | no v=>exact .tup h.sq (.cons (.int _) (.cons (.int _) .nil))
 | add x y=>exact .tup h.sq (.cons (.int _) (.cons (.int _) (.cons (.int _) .nil)))
 | mul x y=>exact .tup h.sq (.cons (.int _) (.cons (.int _) (.cons (.int _) .nil)))
theorem bZ (n:CNode):SeqAt.shaped (fY n)=true:=by
 cases n<;>rfl
theorem iW (m n:CNode):PyData.eqv (fY m) (fY n)=decide (m=n):=by
 rw[Bool.eq_iff_iff,decide_eq_true_eq];cases m<;>cases n<;>simp[fY,PyData.eqv,PyData.eqvAll]
 ·rename_i f g;obtain ⟨n1,d1⟩:=f;obtain ⟨n2,d2⟩:=g;simp;lia
 all_goals lia
structure S9 (K:PySem.W.Frag)(mg:Str->Option Value)(CM:Addr):Prop where
 mc:OF K mg CM
 z:GT K mg "ZERO_circuits" [.int 0,.int 0,.int 1]
 o:GT K mg "ONE" [.int 0,.int 1,.int 1]
 sm:GI mg "SUM" 3
 pr:GI mg "PRODUCT" 4
 put:∃ f fd,bN K CM "put" "Maker.put" (sMk 1) ["self","node"] f fd
theorem iT {a:Addr}{H:Hp}(h:∃ (o:Obj) (its:Array Value) (n:Nat),K.lookup a=some o/\o.cls=.type "tuple" /\ o.data=.seq its n/\its.size<=sizeLine/\bH [.int 0,.int 0,.int 1] its.toList):eO K H a (cR (.const Frac.zero)):=.inr h
theorem G7 {a:Addr}{H:Hp}(h:∃ (o:Obj) (its:Array Value) (n:Nat),K.lookup a=some o/\o.cls=.type "tuple" /\ o.data=.seq its n/\its.size<=sizeLine/\bH [.int 0,.int 1,.int 1] its.toList):eO K H a (cR (.const Frac.one)):=.inr h
theorem iA {c:Circuit}{a:Nat}{n:CNode}(h:c[a]?=some n)(f:Frac):isConst c a f=decide (n=.const f):=by
 unfold isConst;rw[h,Bool.eq_iff_iff,beq_iff_eq,decide_eq_true_eq];exact ⟨λz=>Option.some.inj z,λz=>by rw[z]⟩
inductive vF (K:PySem.W.Frag) (CM:Addr) (op:Circuit->Nat->Nat->Circuit×Nat) (us:List V) (H:Hp) (Q:VK) (E:XK):Prop
 | mk:∀ (m nl pl md:Addr) (hm a b:Nat) (c:Circuit) (mk:List (List Key×V)),us=[.ref m,.int (a:Nat),.int (b:Nat)]->eS K CM H m nl pl md hm c mk->c.length<1000000->a<c.length->b<c.length->(∀ H',eS K CM H' m nl pl md hm (op c a b).1 mk->aH [nl,pl] H H'->Q (.int ((op c a b).2:Nat)) H')->vF K CM op us H Q E
theorem iI {hm:Int}{nl pl md:Addr}:(mkF hm nl pl md).lookup ("put" : Str)=none/\(mkF hm nl pl md).lookup ("put_sum" : Str)=none/\(mkF hm nl pl md).lookup ("put_product" : Str)=none/\(mkF hm nl pl md).lookup ("make_asked" : Str)=none/\(mkF hm nl pl md).lookup ("make_not_asked" : Str)=none/\(mkF hm nl pl md).lookup ("make_new" : Str)=none/\(mkF hm nl pl md).lookup ("make" : Str)=none:=by
 refine ⟨?_,?_,?_,?_,?_,?_,?_⟩<;>with_unfolding_all rfl
theorem WG:aO ["self","a","b"] ["self","a","b"] (aI (sMk 2)):=by walk_at "s"
theorem eS.laid {CM m nl pl md p:Addr}{H:Hp}{hm:Nat}{c:Circuit}{mk:List (List Key×V)}{o:HO}(h:eS K CM H m nl pl md hm c mk)(hp:H p=none):eS K CM (upd H p o) m nl pl md hm c mk:=by
 obtain ⟨⟨dx,h1⟩,⟨as,h2,h3⟩,⟨kvs,h4,h5,h6⟩,h7,ne⟩:=h;have k:aH [] H (upd H p o):=aH.laid hp;exact ⟨⟨dx,k _ _ h1 (by simp)⟩,⟨as,k _ _ h2 (by simp),Paired.mapP h3 λ_ _ z=>z.keep k (by simp)⟩,⟨kvs,k _ _ h4 (by simp),h5,h6⟩,k _ _ h7 (by simp),ne⟩
theorem M8 {CM f:Addr}{fd:FuncData}(N:S9 K mg CM)(F:bN K CM "put_sum" "Maker.put_sum" (sMk 2) ["self","a","b"] f fd):aN P w K mg base CX0 2 f fd ["self","a","b"] (vF K CM mkAdd):=by
 obtain ⟨g,gd,G⟩:=N.put;obtain ⟨za,zm,zs⟩:=N.z;have O:aN P w K mg base CX0 1 g gd ["self","node"] (vD K CM):=uJ N.mc G;refine F.fn.ok WG (λus H Q E h=>?_) (λcdv A outer s H us Q E hr h=>?_)
 ·walk_at "l"
 ·obtain ⟨m,nl,pl,md,hm,a,b,c,mk,rfl,hM,hcl,ha,hb,q⟩:=h
  refine ⟨_,aM (bC (aT (r8 hr.units) (aK aL (aJ (pv 0) rfl) (pv 1) (λ_ _=>rfl)) (pgr zm) (aY _)) (aE (aP (pv 2))) aV)
   (aM (bC (aT (r8 hr.units) (aK aL (aJ (pv 0) rfl) (pv 2) (λ_ _=>rfl)) (pgr zm) (aY _)) (aE (aP (pv 1))) aV)
   (aE (aP (bA (pv 0) N.mc.cl G.me O hr G.bd .nil aR (a9 (cA (a9 (pgi N.sm) (a9 (pv 1) (a9 (pv 2) aC)))) aC))))),?_⟩
  obtain ⟨⟨dx,hm0⟩,⟨as,hn0,hp0⟩,_,_,_⟩:=id hM
  obtain ⟨x,hx⟩:∃ x,c[a]?=some x:=⟨_,List.getElem?_eq_getElem ha⟩
  obtain ⟨y,hy⟩:∃ y,c[b]?=some y:=⟨_,List.getElem?_eq_getElem hb⟩
  obtain ⟨xa,hxa,kx⟩:=bM hp0 hx;obtain ⟨ya,hya,ky⟩:=bM hp0 hy;unfold mkAdd at q;rw[iA hx,iA hy] at q;refine ⟨λσ' H'=>σ'=[some (.ref m),some (.int (a:Nat)),some (.int (b:Nat))]/\H'=H/\¬ x=.const Frac.zero,?_,?_⟩
  ·refine ⟨_,rfl,m,CM,dx,_,_,rfl,hm0,N.mc.cl,N.mc.nN,eX _ _ _ _,_,rfl,nl,_,_,_,rfl,rfl,SqL.of hn0,aX (by rw[List.getElem?_map,hxa];rfl),fY x,fY (.const Frac.zero),eG kx,eG (iT zs),bZ _,bZ _,_,rfl,?_⟩;rw[iW];dsimp only
   by_cases h:x=.const Frac.zero
   ·rw[if_pos (decide_eq_true h)];rw[if_pos (decide_eq_true h)] at q;exact ⟨_,rfl,q H hM aH.refl⟩
   ·rw[if_neg (by simp[h])];exact ⟨rfl,rfl,h⟩
  ·rintro σ1 H1 ⟨rfl,rfl,h⟩;rw[if_neg (by simp[h])] at q;refine ⟨λσ' H'=>σ'=[some (.ref m),some (.int (a:Nat)),some (.int (b:Nat))]/\H'=H1/\¬ y=.const Frac.zero,?_,?_⟩
   ·refine ⟨_,rfl,m,CM,dx,_,_,rfl,hm0,N.mc.cl,N.mc.nN,eX _ _ _ _,_,rfl,nl,_,_,_,rfl,rfl,SqL.of hn0,aX (by rw[List.getElem?_map,hya];rfl),fY y,fY (.const Frac.zero),eG ky,eG (iT zs),bZ _,bZ _,_,rfl,?_⟩;rw[iW];dsimp only
    by_cases h:y=.const Frac.zero
    ·rw[if_pos (decide_eq_true h)];rw[if_pos (decide_eq_true h)] at q;exact ⟨_,rfl,q H1 hM aH.refl⟩
    ·rw[if_neg (by simp[h])];exact ⟨rfl,rfl,h⟩
   ·rintro σ2 H2 ⟨rfl,rfl,h2⟩;rw[if_neg (by simp[h2])] at q;refine ⟨_,rfl,m,dx,_,rfl,hm0,iI.1,_,rfl,_,rfl,?_⟩;refine ⟨by show 3<=sizeLine;rw[sizeLine_eq];decide,λp hp=>⟨m,p,nl,pl,md,hm,c,mk,.add a b,rfl,hM.laid hp,hcl,.inl aA,.inr aA,λH' hM' k'=>q H' hM' ((aH.laid hp).trans k')⟩⟩
theorem U4:aO ["self","a","b"] ["self","a","b"] (aI (sMk 3)):=by walk_at "s"
theorem GM {CM f:Addr}{fd:FuncData}(N:S9 K mg CM)(F:bN K CM "put_product" "Maker.put_product" (sMk 3) ["self","a","b"] f fd):aN P w K mg base CX0 2 f fd ["self","a","b"] (vF K CM mkMul):=by
 obtain ⟨g,gd,G⟩:=N.put;obtain ⟨za,zm,zs⟩:=N.z;obtain ⟨oa,om,os⟩:=N.o;have O:aN P w K mg base CX0 1 g gd ["self","node"] (vD K CM):=uJ N.mc G;refine F.fn.ok U4 (λus H Q E h=>?_) (λcdv A outer s H us Q E hr h=>?_)
 ·walk_at "l"
 ·obtain ⟨m,nl,pl,md,hm,a,b,c,mk,rfl,hM,hcl,ha,hb,q⟩:=h
  refine ⟨_,aM (bC (PW.pt (kO (aT (r8 hr.units) (aK aL (aJ (pv 0) rfl) (pv 1) (λ_ _=>rfl)) (pgr zm) (aY _)) (iJ (aT (r8 hr.units) (aK aL (aJ (pv 0) rfl) (pv 2) (λ_ _=>rfl)) (pgr zm) (aY _)))))
    (aE (aP (bA (pv 0) N.mc.cl G.me O hr G.bd .nil aR (a9 (pgr zm) aC)))) aV)
   (aM (bC (aT (r8 hr.units) (aK aL (aJ (pv 0) rfl) (pv 1) (λ_ _=>rfl)) (pgr om) (aY _)) (aE (aP (pv 2))) aV)
   (aM (bC (aT (r8 hr.units) (aK aL (aJ (pv 0) rfl) (pv 2) (λ_ _=>rfl)) (pgr om) (aY _)) (aE (aP (pv 1))) aV)
   (aE (aP (bA (pv 0) N.mc.cl G.me O hr G.bd .nil aR (a9 (cA (a9 (pgi N.pr) (a9 (pv 1) (a9 (pv 2) aC)))) aC)))))),?_⟩
  obtain ⟨⟨dx,hm0⟩,⟨as,hn0,hp0⟩,_,_,_⟩:=id hM
  obtain ⟨x,hx⟩:∃ x,c[a]?=some x:=⟨_,List.getElem?_eq_getElem ha⟩
  obtain ⟨y,hy⟩:∃ y,c[b]?=some y:=⟨_,List.getElem?_eq_getElem hb⟩
  obtain ⟨xa,hxa,kx⟩:=bM hp0 hx;obtain ⟨ya,hya,ky⟩:=bM hp0 hy;unfold mkMul at q;simp only[iA hx,iA hy,decide_eq_true_eq] at q;refine ⟨λσ' H'=>σ'=[some (.ref m),some (.int (a:Nat)),some (.int (b:Nat))]/\H'=H/\¬ (x=.const Frac.zero∨y=.const Frac.zero),?_,?_⟩
  ·refine ⟨_,rfl,m,CM,dx,_,_,rfl,hm0,N.mc.cl,N.mc.nN,eX _ _ _ _,_,rfl,nl,_,_,_,rfl,rfl,SqL.of hn0,aX (by rw[List.getElem?_map,hxa];rfl),fY x,fY (.const Frac.zero),eG kx,eG (iT zs),bZ _,bZ _,_,rfl,?_⟩;rw[iW];dsimp only
   by_cases h:x=.const Frac.zero
   ·rw[if_pos (decide_eq_true h)];rw[if_pos (.inl h)] at q;exact ⟨_,rfl,m,dx,_,rfl,hm0,iI.1,m,za,nl,pl,md,hm,c,mk,.const Frac.zero,rfl,hM,hcl,iT zs,.inl (h▸List.mem_of_getElem? hx),q⟩
   ·rw[if_neg (by simp[h])];refine ⟨_,rfl,m,CM,dx,_,_,rfl,hm0,N.mc.cl,N.mc.nN,eX _ _ _ _,_,rfl,nl,_,_,_,rfl,rfl,SqL.of hn0,aX (by rw[List.getElem?_map,hya];rfl),fY y,fY (.const Frac.zero),eG ky,eG (iT zs),bZ _,bZ _,_,rfl,?_⟩;rw[iW]
    by_cases h2:y=.const Frac.zero
    ·rw[if_pos (decide_eq_true h2)];rw[if_pos (.inr h2)] at q;exact ⟨_,rfl,m,dx,_,rfl,hm0,iI.1,m,za,nl,pl,md,hm,c,mk,.const Frac.zero,rfl,hM,hcl,iT zs,.inl (h2▸List.mem_of_getElem? hy),q⟩
    ·rw[if_neg (by simp[h2])];exact ⟨rfl,rfl,λz=>z.elim h h2⟩
  ·rintro σ1 H1 ⟨rfl,rfl,h0⟩;rw[if_neg h0] at q;refine ⟨λσ' H'=>σ'=[some (.ref m),some (.int (a:Nat)),some (.int (b:Nat))]/\H'=H1/\¬ x=.const Frac.one,?_,?_⟩
   ·refine ⟨_,rfl,m,CM,dx,_,_,rfl,hm0,N.mc.cl,N.mc.nN,eX _ _ _ _,_,rfl,nl,_,_,_,rfl,rfl,SqL.of hn0,aX (by rw[List.getElem?_map,hxa];rfl),fY x,fY (.const Frac.one),eG kx,eG (G7 os),bZ _,bZ _,_,rfl,?_⟩;rw[iW];dsimp only
    by_cases h:x=.const Frac.one
    ·rw[if_pos (decide_eq_true h)];rw[if_pos h] at q;exact ⟨_,rfl,q H1 hM aH.refl⟩
    ·rw[if_neg (by simp[h])];exact ⟨rfl,rfl,h⟩
   ·rintro σ2 H2 ⟨rfl,rfl,h1⟩;rw[if_neg h1] at q;refine ⟨λσ' H'=>σ'=[some (.ref m),some (.int (a:Nat)),some (.int (b:Nat))]/\H'=H2/\¬ y=.const Frac.one,?_,?_⟩
    ·refine ⟨_,rfl,m,CM,dx,_,_,rfl,hm0,N.mc.cl,N.mc.nN,eX _ _ _ _,_,rfl,nl,_,_,_,rfl,rfl,SqL.of hn0,aX (by rw[List.getElem?_map,hya];rfl),fY y,fY (.const Frac.one),eG ky,eG (G7 os),bZ _,bZ _,_,rfl,?_⟩;rw[iW];dsimp only
     by_cases h:y=.const Frac.one
     ·rw[if_pos (decide_eq_true h)];rw[if_pos h] at q;exact ⟨_,rfl,q H2 hM aH.refl⟩
     ·rw[if_neg (by simp[h])];exact ⟨rfl,rfl,h⟩
    ·rintro σ3 H3 ⟨rfl,rfl,h2⟩;rw[if_neg h2] at q;refine ⟨_,rfl,m,dx,_,rfl,hm0,iI.1,_,rfl,_,rfl,?_⟩;refine ⟨by show 3<=sizeLine;rw[sizeLine_eq];decide,λp hp=>⟨m,p,nl,pl,md,hm,c,mk,.mul a b,rfl,hM.laid hp,hcl,.inl aA,.inr aA,λH' hM' k'=>q H' hM' ((aH.laid hp).trans k')⟩⟩
theorem eL (c:Circuit)(n:CNode):(put c n).1.length<=c.length+1:=by
 unfold put
 split
 ·exact Nat.le_succ _
 ·rw[List.length_append,List.length_singleton];exact Nat.le_refl _
theorem xU (c:Circuit)(a b:Nat):(mkAdd c a b).1.length<=c.length+1:=by
 unfold mkAdd
 split
 ·exact Nat.le_succ _
 ·split
  ·exact Nat.le_succ _
  ·exact eL _ _
theorem pE (c:Circuit)(a b:Nat):(mkMul c a b).1.length<=c.length+1:=by
 unfold mkMul
 split
 ·exact eL _ _
 ·split
  ·exact Nat.le_succ _
  ·split
   ·exact Nat.le_succ _
   ·exact eL _ _
theorem CI (v:Nat)(a:Circuit×Nat):(unasked v a).1.length<=a.1.length+4:=by
 have h1:=eL a.1 (.no v);have h2:=eL (put a.1 (.no v)).1 (.yes v);have h3:=xU (put (put a.1 (.no v)).1 (.yes v)).1 (put a.1 (.no v)).2 (put (put a.1 (.no v)).1 (.yes v)).2;have h4:=pE (mkAdd (put (put a.1 (.no v)).1 (.yes v)).1 (put a.1 (.no v)).2 (put (put a.1 (.no v)).1 (.yes v)).2).1 (mkAdd (put (put a.1 (.no v)).1 (.yes v)).1 (put a.1 (.no v)).2 (put (put a.1 (.no v)).1 (.yes v)).2).2 a.2;show (mkMul _ _ _).1.length<=_;lia
theorem DD (v:Nat)(c:Circuit)(lo hi:Nat):(choice v c lo hi).1.length<=c.length+5:=by
 have h1:=eL c (.no v);have h2:=pE (put c (.no v)).1 (put c (.no v)).2 lo;have h3:=eL (mkMul (put c (.no v)).1 (put c (.no v)).2 lo).1 (.yes v);have h4:=pE (put (mkMul (put c (.no v)).1 (put c (.no v)).2 lo).1 (.yes v)).1 (put (mkMul (put c (.no v)).1 (put c (.no v)).2 lo).1 (.yes v)).2 hi;have h5:=xU (mkMul (put (mkMul (put c (.no v)).1 (put c (.no v)).2 lo).1 (.yes v)).1 (put (mkMul (put c (.no v)).1 (put c (.no v)).2 lo).1 (.yes v)).2 hi).1 (mkMul (put c (.no v)).1 (put c (.no v)).2 lo).2 (mkMul (put (mkMul (put c (.no v)).1 (put c (.no v)).2 lo).1 (.yes v)).1 (put (mkMul (put c (.no v)).1 (put c (.no v)).2 lo).1 (.yes v)).2 hi).2;show (mkAdd _ _ _).1.length<=_;lia
theorem jR:∀ (n v t:Nat) (c:Circuit),(mkT n v t c).1.length+5<=c.length+6*2^n
 | 0,v,t,c=>by
  have:=eL c (.const (if t=1 then Frac.one else Frac.zero))
  show (put _ _).1.length+5<=_;lia
 | n+1,v,t,c=>by
  rw[mkT,Nat.pow_succ];have p:=Nat.two_pow_pos n
  split
  ·have h1:=jR n (v+1) (t%pw n) c;have h2:=CI v (mkT n (v+1) (t%pw n) c);lia
  ·have h1:=jR n (v+1) (t%pw n) c;have h2:=jR n (v+1) (t / pw n) (mkT n (v+1) (t%pw n) c).1;have h3:=DD v (mkT n (v+1) (t / pw n) (mkT n (v+1) (t%pw n) c).1).1 (mkT n (v+1) (t%pw n) c).2 (mkT n (v+1) (t / pw n) (mkT n (v+1) (t%pw n) c).1).2;show (choice _ _ _ _).1.length+5<=_;lia
def kN (v t:Nat):List Key:=[.inl (v:Nat),.inl (t:Nat)]
def gF (hm:Nat)(c:Circuit)(mk:List (List Key×V)):Prop:=∀ (v t:Nat) (x:V),dO mk (kN v t)=some x->∃ j:Nat,x=.int (j:Nat)/\j<c.length/\∀ c',c <+: c'->c'.Nodup->mkT (hm-v) v t c'=(c',j)
theorem gF.pre {hm:Nat}{c c':Circuit}{mk:List (List Key×V)}(h:gF hm c mk)(p:c <+: c'):gF hm c' mk:=λv t x e=>by
 obtain ⟨j,e1,e2,e3⟩:=h v t x e;exact ⟨j,e1,bK p e2,λc2 p2 n2=>e3 c2 (p.trans p2) n2⟩
def tI (K:PySem.W.Frag)(CM:Addr)(H:Hp)(Q:VK)(m nl pl md:Addr)(hm:Nat)(mk:List (List Key×V))(more:Nat)(r:Circuit×Nat):Prop:=
 ∀ (H':Hp) (mk':List (List Key×V)),eS K CM H' m nl pl md hm r.1 mk'->gF hm r.1 mk'->mk'.length<=mk.length+more->aH [nl,pl,md] H H'->Q (.int (r.2:Nat)) H'
inductive oC (K:PySem.W.Frag) (CM:Addr) (n:Nat) (us:List V) (H:Hp) (Q:VK) (E:XK):Prop
 | mk:∀ (m nl pl md:Addr) (hm v t:Nat) (c:Circuit) (mk:List (List Key×V)),us=[.ref m,.int (v:Nat),.int (t:Nat)]->v+n=hm->hm<=12->t<pw n->eS K CM H m nl pl md hm c mk->gF hm c mk->c.Nodup->c.length+6*2^n<=900000->mk.length+2*2^n<=900000->tI K CM H Q m nl pl md hm mk (2*2^n-1) (mkT n v t c)->oC K CM n us H Q E
inductive NM (K:PySem.W.Frag) (CM:Addr) (n:Nat) (us:List V) (H:Hp) (Q:VK) (E:XK):Prop
 | mk:∀ (m nl pl md:Addr) (hm v t:Nat) (c:Circuit) (mk:List (List Key×V)),us=[.ref m,.int (v:Nat),.int (t:Nat)]->v+(n+1)=hm->hm<=12->t<pw n->eS K CM H m nl pl md hm c mk->gF hm c mk->c.Nodup->c.length+6*2^(n+1)<=900000->mk.length+2*2^(n+1)<=900000->tI K CM H Q m nl pl md hm mk (2*2^n-1) (unasked v (mkT n (v+1) t c))->NM K CM n us H Q E
structure tH (K:PySem.W.Frag)(mg:Str->Option Value)(CM:Addr):Prop where
 pg:S9 K mg CM
 no:GI mg "NO" 2
 ye:GI mg "YES" 1
 nu:GI mg "NUMBER_circuits" 0
 sum:∃ f fd,bN K CM "put_sum" "Maker.put_sum" (sMk 2) ["self","a","b"] f fd
 prod:∃ f fd,bN K CM "put_product" "Maker.put_product" (sMk 3) ["self","a","b"] f fd
theorem eS.maker {CM m nl pl md:Addr}{H:Hp}{hm:Nat}{c:Circuit}{mk:List (List Key×V)}(h:eS K CM H m nl pl md hm c mk):∃ dx,H m=some (.ins CM dx (mkF (hm:Nat) nl pl md)):=h.ob
theorem C0:aO ["self","variable","either","a","no","yes"] ["self","variable","either"] (aI (sMk 5)):=by walk_at "s"
theorem T5 {CM f g:Addr}{fd gd:FuncData}{k n:Nat}(hk:2<=k)(N:tH K mg CM)(G:bN K CM "make" "Maker.make" (sMk 7) ["self","variable","table"] g gd)(O:aN P w K mg base CX0 k g gd ["self","variable","table"] (oC K CM n))
  (F:bN K CM "make_not_asked" "Maker.make_not_asked" (sMk 5) ["self","variable","either"] f fd):aN P w K mg base CX0 (k+1) f fd ["self","variable","either"] (NM K CM n):=by
 obtain ⟨g1,d1,G1⟩:=N.pg.put;obtain ⟨g2,d2,G2⟩:=N.sum;obtain ⟨g3,d3,G3⟩:=N.prod;have O1:aN P w K mg base CX0 1 g1 d1 ["self","node"] (vD K CM):=uJ N.pg.mc G1;have O2:aN P w K mg base CX0 2 g2 d2 ["self","a","b"] (vF K CM mkAdd):=M8 N.pg G2;have O3:aN P w K mg base CX0 2 g3 d3 ["self","a","b"] (vF K CM mkMul):=GM N.pg G3;have cl:=N.pg.mc.cl;refine F.fn.ok C0 (λus H Q E h=>?_) (λcdv A outer s H us Q E hr h=>?_)
 ·walk_at "l"
 ·obtain ⟨m,nl,pl,md,hm,v,t,c,mk,rfl,hv,h12,htl,hM,hmo,nd,hc,hml,q⟩:=h;have hr2:cI 2 _:=hr.mono hk;have hr1:cI 1 _:=hr2.mono (by decide)
  refine ⟨_,aM (aQ (i:=3) C0.nd rfl (Or.inl rfl) (bA (pv 0) cl G.me O hr G.bd .nil aR (a9 (b7 dJ (pv 1) aF) (a9 (pv 2) aC))))
   (aM (aQ (i:=4) C0.nd rfl (Or.inl rfl) (bA (pv 0) cl G1.me O1 hr1 G1.bd .nil aR (a9 (cA (a9 (pgi N.no) (a9 (pv 1) aC))) aC)))
   (aM (aQ (i:=5) C0.nd rfl (Or.inl rfl) (bA (pv 0) cl G1.me O1 hr1 G1.bd .nil aR (a9 (cA (a9 (pgi N.ye) (a9 (pv 1) aC))) aC)))
   (aE (aP (bA (pv 0) cl G3.me O3 hr2 G3.bd .nil aR (a9 (bA (pv 0) cl G2.me O2 hr2 G2.bd .nil aR (a9 (pv 4) (a9 (pv 5) aC))) (a9 (pv 3) aC))))))),?_⟩
  have pp:=Nat.two_pow_pos n;rw[Nat.pow_succ] at hc hml;have T:=nE n (v+1) t nd;have lT:=jR n (v+1) t c
  obtain ⟨c1,j1,e1⟩:∃ c1 j1,mkT n (v+1) t c=(c1,j1):=⟨_,_,rfl⟩
  obtain ⟨T1,T2,T3,_⟩:=T;rw[e1] at q T1 T2 T3 lT;dsimp only at lT;have X:=bJ T2 (.no v);have lX:=eL c1 (.no v);have Y:=bJ X.nd (.yes v);have lY:=eL (put c1 (.no v)).1 (.yes v);have S:=tL Y.nd (bK Y.pre X.lt) Y.lt;have lS:=xU (put (put c1 (.no v)).1 (.yes v)).1 (put c1 (.no v)).2 (put (put c1 (.no v)).1 (.yes v)).2;have Z:=qW S.nd S.lt (bK S.pre (bK Y.pre (bK X.pre T3)))
  have k3:∀ b,b∈[nl,pl]->b∈[nl,pl,md]:=λb hb=>by simp at hb;rcases hb with h|h<;>simp[h]
  let σ0:Option V->Option V->Option V->L2.St:=λx y z=>[some (.ref m),some (.int (v:Nat)),some (.int (t:Nat)),x,y,z]
  obtain ⟨dx,hm0⟩:=hM.maker;refine ⟨λσ' H'=>∃ mk',σ'=σ0 (some (.int (j1:Nat))) none none/\eS K CM H' m nl pl md hm c1 mk'/\gF hm c1 mk'/\mk'.length<=mk.length+(2*2^n-1)/\aH [nl,pl,md] H H',?_,?_⟩
  ·refine ⟨_,rfl,m,dx,_,rfl,hm0,iI.2.2.2.2.2.2,_,rfl,_,_,rfl,rfl,_,rfl,m,nl,pl,md,hm,v+1,t,c,mk,rfl,by lia,h12,htl,hM,hmo,nd,by lia,by lia,?_⟩;rw[e1]
   exact λH' mk' a1 a2 a3 a4=>⟨mk',rfl,a1,a2,a3,a4⟩
  ·rintro σ1 H1 ⟨mk1,rfl,hM1,ho1,hl1,kp1⟩;obtain ⟨dx1,hm1⟩:=hM1.maker;refine ⟨λσ' H'=>σ'=σ0 (some (.int (j1:Nat))) (some (.int ((put c1 (.no v)).2:Nat))) none/\eS K CM H' m nl pl md hm (put c1 (.no v)).1 mk1/\aH [nl,pl,md] H H',?_,?_⟩
   ·refine ⟨_,rfl,m,dx1,_,rfl,hm1,iI.1,_,rfl,by show 2<=sizeLine;rw[sizeLine_eq];decide,λp hp=>⟨m,p,nl,pl,md,hm,c1,mk1,.no v,rfl,hM1.laid hp,by lia,.inl aA,.inr aA,λH' hM' k'=>⟨rfl,hM',kp1.trans ((aH.laid hp).trans (k'.mono k3))⟩⟩⟩
   ·rintro σ2 H2 ⟨rfl,hM2,kp2⟩;obtain ⟨dx2,hm2⟩:=hM2.maker;refine ⟨λσ' H'=>σ'=σ0 (some (.int (j1:Nat))) (some (.int ((put c1 (.no v)).2:Nat))) (some (.int ((put (put c1 (.no v)).1 (.yes v)).2:Nat)))/\eS K CM H' m nl pl md hm (put (put c1 (.no v)).1 (.yes v)).1 mk1/\aH [nl,pl,md] H H',?_,?_⟩
    ·refine ⟨_,rfl,m,dx2,_,rfl,hm2,iI.1,_,rfl,by show 2<=sizeLine;rw[sizeLine_eq];decide,λp hp=>⟨m,p,nl,pl,md,hm,_,mk1,.yes v,rfl,hM2.laid hp,by lia,.inl aA,.inr aA,λH' hM' k'=>⟨rfl,hM',kp2.trans ((aH.laid hp).trans (k'.mono k3))⟩⟩⟩
    ·rintro σ3 H3 ⟨rfl,hM3,kp3⟩;obtain ⟨dx3,hm3⟩:=hM3.maker;refine ⟨_,rfl,m,dx3,_,rfl,hm3,iI.2.2.1,_,rfl,m,dx3,_,rfl,hm3,iI.2.1,_,rfl,_,rfl,m,nl,pl,md,hm,_,_,_,mk1,rfl,hM3,by lia,bK Y.pre X.lt,Y.lt,λH4 hM4 kp4=>?_⟩;refine ⟨_,rfl,m,nl,pl,md,hm,_,_,_,mk1,rfl,hM4,by lia,S.lt,bK S.pre (bK Y.pre (bK X.pre T3)),λH5 hM5 kp5=>?_⟩;exact q H5 mk1 hM5 (ho1.pre (X.pre.trans (Y.pre.trans (S.pre.trans Z.pre)))) hl1 (kp3.trans ((kp4.mono k3).trans (kp5.mono k3)))
inductive NI (K:PySem.W.Frag) (CM:Addr) (n:Nat) (us:List V) (H:Hp) (Q:VK) (E:XK):Prop
 | mk:∀ (m nl pl md:Addr) (hm v t u:Nat) (c:Circuit) (mk:List (List Key×V)),us=[.ref m,.int (v:Nat),.int (t:Nat),.int (u:Nat)]->v+(n+1)=hm->hm<=12->t<pw n->u<pw n->eS K CM H m nl pl md hm c mk->gF hm c mk->c.Nodup->c.length+6*2^(n+1)<=900000->mk.length+2*2^(n+1)<=900000->tI K CM H Q m nl pl md hm mk (2*2^n-1+(2*2^n-1)) (choice v (mkT n (v+1) u (mkT n (v+1) t c).1).1 (mkT n (v+1) t c).2 (mkT n (v+1) u (mkT n (v+1) t c).1).2)->NI K CM n us H Q E
theorem xH:aO ["self","variable","when_false","when_true","a","b","first","second"] ["self","variable","when_false","when_true"] (aI (sMk 4)):=by walk_at "s"
theorem SX {CM f g:Addr}{fd gd:FuncData}{k n:Nat}(hk:2<=k)(N:tH K mg CM)(G:bN K CM "make" "Maker.make" (sMk 7) ["self","variable","table"] g gd)(O:aN P w K mg base CX0 k g gd ["self","variable","table"] (oC K CM n))
  (F:bN K CM "make_asked" "Maker.make_asked" (sMk 4) ["self","variable","when_false","when_true"] f fd):aN P w K mg base CX0 (k+1) f fd ["self","variable","when_false","when_true"] (NI K CM n):=by
 obtain ⟨g1,d1,G1⟩:=N.pg.put;obtain ⟨g2,d2,G2⟩:=N.sum;obtain ⟨g3,d3,G3⟩:=N.prod;have O1:aN P w K mg base CX0 1 g1 d1 ["self","node"] (vD K CM):=uJ N.pg.mc G1;have O2:aN P w K mg base CX0 2 g2 d2 ["self","a","b"] (vF K CM mkAdd):=M8 N.pg G2;have O3:aN P w K mg base CX0 2 g3 d3 ["self","a","b"] (vF K CM mkMul):=GM N.pg G3;have cl:=N.pg.mc.cl;refine F.fn.ok xH (λus H Q E h=>?_) (λcdv A outer s H us Q E hr h=>?_)
 ·walk_at "l"
 ·obtain ⟨m,nl,pl,md,hm,v,t,u,c,mk,rfl,hv,h12,htl,hul,hM,hmo,nd,hc,hml,q⟩:=h;have hr2:cI 2 _:=hr.mono hk;have hr1:cI 1 _:=hr2.mono (by decide)
  refine ⟨_,aM (aQ (i:=4) xH.nd rfl (Or.inl rfl) (bA (pv 0) cl G.me O hr G.bd .nil aR (a9 (b7 dJ (pv 1) aF) (a9 (pv 2) aC))))
   (aM (aQ (i:=5) xH.nd rfl (Or.inl rfl) (bA (pv 0) cl G.me O hr G.bd .nil aR (a9 (b7 dJ (pv 1) aF) (a9 (pv 3) aC))))
   (aM (aQ (i:=6) xH.nd rfl (Or.inl rfl) (bA (pv 0) cl G3.me O3 hr2 G3.bd .nil aR (a9 (bA (pv 0) cl G1.me O1 hr1 G1.bd .nil aR (a9 (cA (a9 (pgi N.no) (a9 (pv 1) aC))) aC)) (a9 (pv 4) aC))))
   (aM (aQ (i:=7) xH.nd rfl (Or.inl rfl) (bA (pv 0) cl G3.me O3 hr2 G3.bd .nil aR (a9 (bA (pv 0) cl G1.me O1 hr1 G1.bd .nil aR (a9 (cA (a9 (pgi N.ye) (a9 (pv 1) aC))) aC)) (a9 (pv 5) aC))))
   (aE (aP (bA (pv 0) cl G2.me O2 hr2 G2.bd .nil aR (a9 (pv 6) (a9 (pv 7) aC)))))))),?_⟩
  have pp:=Nat.two_pow_pos n;rw[Nat.pow_succ] at hc hml;obtain ⟨T1,T2,T3,_⟩:=nE n (v+1) t nd;have lT:=jR n (v+1) t c
  obtain ⟨c1,j1,e1⟩:∃ c1 j1,mkT n (v+1) t c=(c1,j1):=⟨_,_,rfl⟩
  rw[e1] at q T1 T2 T3 lT;dsimp only at lT;obtain ⟨U1,U2,U3,_⟩:=nE n (v+1) u T2;have lU:=jR n (v+1) u c1
  obtain ⟨c2,j2,e2⟩:∃ c2 j2,mkT n (v+1) u c1=(c2,j2):=⟨_,_,rfl⟩
  have q:tI K CM H Q m nl pl md hm mk (2*2^n-1+(2*2^n-1)) (choice v (mkT n (v+1) u c1).1 j1 (mkT n (v+1) u c1).2):=q;rw[e2] at q;have U1:c1 <+: (mkT n (v+1) u c1).1:=U1;have U2:(mkT n (v+1) u c1).1.Nodup:=U2;have U3:(mkT n (v+1) u c1).2<(mkT n (v+1) u c1).1.length:=U3;have lU:(mkT n (v+1) u c1).1.length+5<=c1.length+6*2^n:=lU;rw[e2] at U1 U2 U3 lU;dsimp only at lU U3;have X:=bJ U2 (.no v);have lX:=eL c2 (.no v);have R:=qW X.nd X.lt (bK X.pre (bK U1 T3));have lR:=pE (put c2 (.no v)).1 (put c2 (.no v)).2 j1;have Y:=bJ R.nd (.yes v);have lY:=eL (mkMul (put c2 (.no v)).1 (put c2 (.no v)).2 j1).1 (.yes v);have Z:=qW Y.nd Y.lt (bK Y.pre (bK R.pre (bK X.pre U3)));have lZ:=pE (put (mkMul (put c2 (.no v)).1 (put c2 (.no v)).2 j1).1 (.yes v)).1 (put (mkMul (put c2 (.no v)).1 (put c2 (.no v)).2 j1).1 (.yes v)).2 j2;have S:=tL Z.nd (bK Z.pre (bK Y.pre R.lt)) Z.lt
  have k3:∀ b,b∈[nl,pl]->b∈[nl,pl,md]:=λb hb=>by simp at hb;rcases hb with h|h<;>simp[h]
  let σ0:Option V->Option V->Option V->Option V->L2.St:=λx y z w=>[some (.ref m),some (.int (v:Nat)),some (.int (t:Nat)),some (.int (u:Nat)),x,y,z,w]
  obtain ⟨dx,hm0⟩:=hM.maker;refine ⟨λσ' H'=>∃ mk',σ'=σ0 (some (.int (j1:Nat))) none none none/\eS K CM H' m nl pl md hm c1 mk'/\gF hm c1 mk'/\mk'.length<=mk.length+(2*2^n-1)/\aH [nl,pl,md] H H',?_,?_⟩
  ·refine ⟨_,rfl,m,dx,_,rfl,hm0,iI.2.2.2.2.2.2,_,rfl,_,_,rfl,rfl,_,rfl,m,nl,pl,md,hm,v+1,t,c,mk,rfl,by lia,h12,htl,hM,hmo,nd,by lia,by lia,?_⟩;rw[e1]
   exact λH' mk' a1 a2 a3 a4=>⟨mk',rfl,a1,a2,a3,a4⟩
  ·rintro σ1 H1 ⟨mk1,rfl,hM1,ho1,hl1,kp1⟩;obtain ⟨dx1,hm1⟩:=hM1.maker;refine ⟨λσ' H'=>∃ mk',σ'=σ0 (some (.int (j1:Nat))) (some (.int (j2:Nat))) none none/\eS K CM H' m nl pl md hm c2 mk'/\gF hm c2 mk'/\mk'.length<=mk.length+(2*2^n-1+(2*2^n-1))/\aH [nl,pl,md] H H',?_,?_⟩
   ·refine ⟨_,rfl,m,dx1,_,rfl,hm1,iI.2.2.2.2.2.2,_,rfl,_,_,rfl,rfl,_,rfl,m,nl,pl,md,hm,v+1,u,c1,mk1,rfl,by lia,h12,hul,hM1,ho1,T2,by lia,by lia,?_⟩;rw[e2]
    exact λH' mk' a1 a2 a3 a4=>⟨mk',rfl,a1,a2,by lia,kp1.trans a4⟩
   ·rintro σ2 H2 ⟨mk2,rfl,hM2,ho2,hl2,kp2⟩;obtain ⟨dx2,hm2⟩:=hM2.maker;refine ⟨λσ' H'=>σ'=σ0 (some (.int (j1:Nat))) (some (.int (j2:Nat))) (some (.int ((mkMul (put c2 (.no v)).1 (put c2 (.no v)).2 j1).2:Nat))) none/\eS K CM H' m nl pl md hm (mkMul (put c2 (.no v)).1 (put c2 (.no v)).2 j1).1 mk2/\aH [nl,pl,md] H H',?_,?_⟩
    ·refine ⟨_,rfl,m,dx2,_,rfl,hm2,iI.2.2.1,_,rfl,m,dx2,_,rfl,hm2,iI.1,_,rfl,by show 2<=sizeLine;rw[sizeLine_eq];decide,λp hp=>⟨m,p,nl,pl,md,hm,c2,mk2,.no v,rfl,hM2.laid hp,by lia,.inl aA,.inr aA,λH3 hM3 kp3=>?_⟩⟩;refine ⟨_,rfl,m,nl,pl,md,hm,_,_,_,mk2,rfl,hM3,by lia,X.lt,bK X.pre (bK U1 T3),λH4 hM4 kp4=>⟨rfl,hM4,kp2.trans ((aH.laid hp).trans ((kp3.mono k3).trans (kp4.mono k3)))⟩⟩
    ·rintro σ3 H3 ⟨rfl,hM3,kp3⟩;obtain ⟨dx3,hm3⟩:=hM3.maker
     refine ⟨λσ' H'=>σ'=σ0 (some (.int (j1:Nat))) (some (.int (j2:Nat))) (some (.int ((mkMul (put c2 (.no v)).1 (put c2 (.no v)).2 j1).2:Nat))) (some (.int ((mkMul (put (mkMul (put c2 (.no v)).1 (put c2 (.no v)).2 j1).1 (.yes v)).1 (put (mkMul (put c2 (.no v)).1 (put c2 (.no v)).2 j1).1 (.yes v)).2 j2).2:Nat)))/\
      eS K CM H' m nl pl md hm (mkMul (put (mkMul (put c2 (.no v)).1 (put c2 (.no v)).2 j1).1 (.yes v)).1 (put (mkMul (put c2 (.no v)).1 (put c2 (.no v)).2 j1).1 (.yes v)).2 j2).1 mk2/\aH [nl,pl,md] H H',?_,?_⟩
     ·refine ⟨_,rfl,m,dx3,_,rfl,hm3,iI.2.2.1,_,rfl,m,dx3,_,rfl,hm3,iI.1,_,rfl,by show 2<=sizeLine;rw[sizeLine_eq];decide,λp hp=>⟨m,p,nl,pl,md,hm,_,mk2,.yes v,rfl,hM3.laid hp,by lia,.inl aA,.inr aA,λH4 hM4 kp4=>?_⟩⟩;refine ⟨_,rfl,m,nl,pl,md,hm,_,_,_,mk2,rfl,hM4,by lia,Y.lt,bK Y.pre (bK R.pre (bK X.pre U3)),λH5 hM5 kp5=>⟨rfl,hM5,kp3.trans ((aH.laid hp).trans ((kp4.mono k3).trans (kp5.mono k3)))⟩⟩
     ·rintro σ4 H4 ⟨rfl,hM4,kp4⟩;obtain ⟨dx4,hm4⟩:=hM4.maker;refine ⟨_,rfl,m,dx4,_,rfl,hm4,iI.2.1,_,rfl,_,rfl,m,nl,pl,md,hm,_,_,_,mk2,rfl,hM4,by lia,bK Z.pre (bK Y.pre R.lt),Z.lt,λH5 hM5 kp5=>?_⟩;exact q H5 mk2 hM5 (ho2.pre (X.pre.trans (R.pre.trans (Y.pre.trans (Z.pre.trans S.pre))))) hl2 (kp4.trans (kp5.mono k3))
inductive EQ (K:PySem.W.Frag) (CM:Addr) (n:Nat) (us:List V) (H:Hp) (Q:VK) (E:XK):Prop
 | mk:∀ (m nl pl md:Addr) (hm v t:Nat) (c:Circuit) (mk:List (List Key×V)),us=[.ref m,.int (v:Nat),.int (t:Nat)]->v+n=hm->hm<=12->t<pw n->eS K CM H m nl pl md hm c mk->gF hm c mk->c.Nodup->c.length+6*2^n<=900000->mk.length+2*2^n<=900000->tI K CM H Q m nl pl md hm mk (2*2^n-2) (mkT n v t c)->EQ K CM n us H Q E
theorem zD:aO ["self","variable","table","half","when_true","when_false"] ["self","variable","table"] (aI (sMk 6)):=by walk_at "s"
theorem wX {CM f gN gA:Addr}{fd dN dA:FuncData}{k n:Nat}(hk:1<=k)(N:tH K mg CM)(F:bN K CM "make_new" "Maker.make_new" (sMk 6) ["self","variable","table"] f fd)
  (GN:bN K CM "make_not_asked" "Maker.make_not_asked" (sMk 5) ["self","variable","either"] gN dN) (GA:bN K CM "make_asked" "Maker.make_asked" (sMk 4) ["self","variable","when_false","when_true"] gA dA)
  (sN sA:Sp) (ON:aN P w K mg base CX0 k gN dN ["self","variable","either"] sN) (OA:aN P w K mg base CX0 k gA dA ["self","variable","when_false","when_true"] sA) (hs:∀ n',n=n'+1->sN=NM K CM n'/\sA=NI K CM n'):
  aN P w K mg base CX0 (k+1) f fd ["self","variable","table"] (EQ K CM n):=by
 obtain ⟨g1,d1,G1⟩:=N.pg.put;have O1:aN P w K mg base CX0 1 g1 d1 ["self","node"] (vD K CM):=uJ N.pg.mc G1;have cl:=N.pg.mc.cl;refine F.fn.ok zD (λus H Q E h=>?_) (λcdv A outer s H us Q E hr h=>?_)
 ·walk_at "l"
 ·obtain ⟨m,nl,pl,md,hm,v,t,c,mk,rfl,hv,h12,htl,hM,hmo,nd,hc,hml,q⟩:=h;have hr1:cI 1 _:=hr.mono hk
  refine ⟨_,aM (bC (aT bV (pv 1) (aJ (pv 0) rfl) (aY _)) (aE (aP (bA (pv 0) cl G1.me O1 hr1 G1.bd .nil aR (a9 (cA (a9 (pgi N.nu) (a9 (pv 2) (a9 aF aC)))) aC)))) aV)
   (aM (aQ (i:=3) zD.nd rfl (Or.inl rfl) (b7 gT aF (b7 gG (b7 gG (aJ (pv 0) rfl) aF) (pv 1))))
   (aM (aQ (i:=4) zD.nd rfl (Or.inl rfl) (b7 TB (pv 2) (pv 3)))
   (aM (aQ (i:=5) zD.nd rfl (Or.inl rfl) (b7 uM (pv 2) (b7 gT (pv 4) (pv 3))))
   (aM (bC (aT bV (pv 4) (pv 5) (aY _)) (aE (aP (bA (pv 0) cl GN.me ON hr GN.bd .nil aR (a9 (pv 1) (a9 (pv 5) aC))))) aV)
   (aE (aP (bA (pv 0) cl GA.me OA hr GA.bd .nil aR (a9 (pv 1) (a9 (pv 5) (a9 (pv 4) aC)))))))))),?_⟩
  obtain ⟨dx,hm0⟩:=hM.maker;have pp:=Nat.two_pow_pos n
  let σ0:Option V->Option V->Option V->L2.St:=λx y z=>[some (.ref m),some (.int (v:Nat)),some (.int (t:Nat)),x,y,z]
  have k3:∀ b,b∈[nl,pl]->b∈[nl,pl,md]:=λb hb=>by simp at hb;rcases hb with h|h<;>simp[h]
  refine ⟨λσ' H'=>σ'=σ0 none none none/\H'=H/\∃ n',n=n'+1,?_,?_⟩
  ·refine ⟨_,rfl,_,rfl,m,CM,dx,_,_,rfl,hm0,cl,N.pg.mc.nH,RJ _ _ _ _,rfl,_,rfl,?_⟩
   show if decide (V.int _=V.int _)=true then _ else _
   rw[cV]
   cases n with
   | zero=>
    rw[if_pos (decide_eq_true (by lia))];have ht2:t<2:=htl
    have eK:cR (.const (if t=1 then Frac.one else Frac.zero))=[.inl 0,.inl (t:Nat),.inl 1]:=by
     by_cases h:t=1
     ·subst h;rfl
     ·have:t=0:=by lia
      subst this;rfl
    have hcl:c.length<1000000:=by lia
    refine ⟨_,rfl,m,dx,_,rfl,hm0,iI.1,_,rfl,by show 3<=sizeLine;rw[sizeLine_eq];decide,λp hp=>⟨m,p,nl,pl,md,hm,c,mk,.const (if t=1 then Frac.one else Frac.zero),rfl,hM.laid hp,hcl,.inl (by rw[eK];exact aA),.inr (by rw[eK];exact aA),λH' hM' k'=>?_⟩⟩;exact q H' mk hM' (hmo.pre (bJ nd _).pre) (Nat.le_add_right _ _) ((aH.laid hp).trans (k'.mono k3))
   | succ n=>
    rw[if_neg (by simp only[decide_eq_true_eq];lia)];exact ⟨rfl,rfl,n,rfl⟩
  ·rintro σ1 H1 ⟨rfl,rfl,n',rfl⟩;obtain ⟨rfl,rfl⟩:=hs n' rfl;have hn:2^n'<=4096:=i6 (by lia);have b1:Builtin.Int.intBits 1<=100000:=iM (x:=1) (k:=1) (by decide) (by decide);have e1:(hm:Int)-1-(v:Int)=((n':Nat):Int):=by lia
   have e2:(1:Int)*2^((n':Nat):Int).toNat=((2^n':Nat):Int):=by
    have:=gW 1 n'
    rw[Nat.one_mul] at this;exact this
   have hdl:t / pw n'<pw n':=Nat.div_lt_of_lt_mul (by rw[← sW];exact htl);refine ⟨λσ' H'=>σ'=σ0 (some (.int (2^n':Nat))) none none/\H'=H1,?_,?_⟩
   ·refine ⟨_,rfl,m,CM,dx,_,_,rfl,hm0,cl,N.pg.mc.nH,RJ _ _ _ _,_,_,rfl,rfl,?_⟩;refine ⟨_,rfl,_,_,rfl,rfl,?_⟩;dsimp only;rw[e1];refine ⟨_,_,rfl,rfl,⟨Int.natCast_nonneg _,by lia,b1⟩,?_⟩;rw[e2];exact ⟨rfl,rfl⟩
   ·rintro σ2 H2 ⟨rfl,rfl⟩;refine ⟨λσ' H'=>σ'=σ0 (some (.int (2^n':Nat))) (some (.int (t / pw n':Nat))) none/\H'=H2,?_,?_⟩
    ·refine ⟨_,rfl,_,rfl,_,_,rfl,rfl,Int.natCast_nonneg _,?_,rfl⟩;rw[Int.toNat_natCast]
     have:((t:Int) / 2^2^n')=((t / pw n':Nat):Int):=by
      rw[xE]
      norm_cast
     rw[this];rfl
    ·rintro σ3 H3 ⟨rfl,rfl⟩;refine ⟨λσ' H'=>σ'=σ0 (some (.int (2^n':Nat))) (some (.int (t / pw n':Nat))) (some (.int (t%pw n':Nat)))/\H'=H3,?_,?_⟩
     ·refine ⟨_,rfl,_,rfl,_,rfl,_,_,rfl,rfl,⟨Int.natCast_nonneg _,by lia,iM (k:=2^n') (by rw[← xE];exact hdl) (by lia)⟩,?_⟩;dsimp only;rw[gW];refine ⟨_,_,rfl,rfl,?_⟩;rw[hG,← xE,yG];exact ⟨rfl,rfl⟩
     ·rintro σ4 H4 ⟨rfl,rfl⟩;have hml':t%pw n'<pw n':=Nat.mod_lt _ (lE _);rw[mkT] at q;refine ⟨λσ' H'=>σ'=σ0 (some (.int (2^n':Nat))) (some (.int (t / pw n':Nat))) (some (.int (t%pw n':Nat)))/\H'=H4/\¬ t / pw n'=t%pw n',?_,?_⟩
      ·refine ⟨_,rfl,_,rfl,rfl,_,rfl,?_⟩
       show if decide (V.int _=V.int _)=true then _ else _
       rw[cV]
       by_cases he:t / pw n'=t%pw n'
       ·rw[if_pos (decide_eq_true (by rw[he]))];rw[if_pos he] at q;refine ⟨_,rfl,m,dx,_,rfl,hm0,iI.2.2.2.2.1,_,rfl,_,rfl,m,nl,pl,md,hm,v,t%pw n',c,mk,rfl,hv,h12,hml',hM,hmo,nd,hc,hml,λH' mk' a1 a2 a3 a4=>q H' mk' a1 a2 (Nat.le_trans a3 ?_) a4⟩
        have:=Nat.two_pow_pos n'
        rw[Nat.pow_succ];lia
       ·rw[if_neg (by simp only[decide_eq_true_eq];lia)];exact ⟨rfl,rfl,he⟩
      ·rintro σ5 H5 ⟨rfl,rfl,he⟩;rw[if_neg he] at q;refine ⟨_,rfl,m,dx,_,rfl,hm0,iI.2.2.2.1,_,rfl,_,rfl,_,rfl,m,nl,pl,md,hm,v,t%pw n',t / pw n',c,mk,rfl,hv,h12,hml',hdl,hM,hmo,nd,hc,hml,λH' mk' a1 a2 a3 a4=>q H' mk' a1 a2 (Nat.le_trans a3 ?_) a4⟩
       have:=Nat.two_pow_pos n'
       rw[Nat.pow_succ];lia
theorem IZ {v t v' t':Nat}(h:kN v' t'=kN v t):v'=v/\t'=t:=by
 simp[kN] at h;lia
theorem eS.putM {CM m nl pl md:Addr}{H:Hp}{hm:Nat}{c:Circuit}{mk mk':List (List Key×V)}(h:eS K CM H m nl pl md hm c mk):eS K CM (upd H md (.dT mk')) m nl pl md hm c mk':=by
 obtain ⟨⟨dx,h1⟩,⟨as,h2,h3⟩,⟨kvs,h4,h5,h6⟩,h7,ne⟩:=h;exact ⟨⟨dx,by rw[aB (bI h1 h7 (by intro z;cases z))];exact h1⟩,⟨as,by rw[aB (bI h2 h7 (by intro z;cases z))];exact h2,Paired.mapP h3 λ_ _ z=>z.upd h7 (by intro xs z;cases z)⟩,⟨kvs,by rw[aB ne];exact h4,h5,h6⟩,aA,ne⟩
theorem U0:aO ["self","variable","table"] ["self","variable","table"] (aI (sMk 7)):=by walk_at "s"
theorem wW {CM f g:Addr}{fd gd:FuncData}{k n:Nat}(N:tH K mg CM)(F:bN K CM "make" "Maker.make" (sMk 7) ["self","variable","table"] f fd)(G:bN K CM "make_new" "Maker.make_new" (sMk 6) ["self","variable","table"] g gd)
  (O:aN P w K mg base CX0 k g gd ["self","variable","table"] (EQ K CM n)):aN P w K mg base CX0 (k+1) f fd ["self","variable","table"] (oC K CM n):=by
 have cl:=N.pg.mc.cl;have nM:=N.pg.mc.nM;refine F.fn.ok U0 (λus H Q E h=>?_) (λcdv A outer s H us Q E hr h=>?_)
 ·walk_at "l"
 ·obtain ⟨m,nl,pl,md,hm,v,t,c,mk,rfl,hv,h12,htl,hM,hmo,nd,hc,hml,q⟩:=h
  refine ⟨_,aM (bC (E3 (xB (kI hr) (cA (a9 (pv 1) (a9 (pv 2) aC))) (aJ (pv 0) rfl)))
    (aE (yT (kI hr) (aJ (pv 0) rfl) (cA (a9 (pv 1) (a9 (pv 2) aC))) (bA (pv 0) cl G.me O hr G.bd .nil aR (a9 (pv 1) (a9 (pv 2) aC))) rfl)) aV)
   (aE (aP (GV (kI hr) (aJ (pv 0) rfl) (cA (a9 (pv 1) (a9 (pv 2) aC))) (by first|exact λ_ _=>rfl|trivial|rfl)))),?_⟩
  obtain ⟨dx,hm0⟩:=hM.maker;have pp:=Nat.two_pow_pos n;have T:=nE n v t nd;have hmv:hm-v=n:=by lia
  have two:2<=sizeLine:=by rw[sizeLine_eq];decide
  refine ⟨λσ' H'=>∃ mk',σ'=[some (.ref m),some (.int (v:Nat)),some (.int (t:Nat))]/\eS K CM H' m nl pl md hm (mkT n v t c).1 mk'/\gF hm (mkT n v t c).1 mk'/\mk'.length<=mk.length+(2*2^n-1)/\aH [nl,pl,md] H H'/\dO mk' (kN v t)=some (.int ((mkT n v t c).2:Nat)),?_,?_⟩
  ·refine ⟨_,rfl,_,rfl,two,λp hp=>?_⟩;have hM1:=hM.laid (o:=.tup [.int (v:Nat),.int (t:Nat)]) hp;obtain ⟨dx1,hm1⟩:=hM1.maker;refine ⟨_,rfl,m,CM,dx1,_,_,rfl,hm1,cl,nM,yI _ _ _ _,md,p,mk,kN v t,rfl,rfl,hM1.mds,.inl aA,_,rfl,?_⟩
   cases hx:dO mk (kN v t) with
   | some x=>
    obtain ⟨j,ex,_,ej⟩:=hmo v t x hx;subst ex;have ec:=ej c (List.prefix_refl _) nd;rw[hmv] at ec;rw[ec];exact ⟨mk,rfl,hM1,hmo,Nat.le_add_right _ _,aH.laid hp,hx⟩
   | none=>
    rw[if_pos (show (!(Option.none:Option V).isSome)=true from rfl)];refine ⟨_,rfl,m,dx1,_,rfl,hm1,iI.2.2.2.2.2.1,_,rfl,_,rfl,m,nl,pl,md,hm,v,t,c,mk,rfl,hv,h12,htl,hM1,hmo,nd,hc,hml,λH2 mk2 hM2 ho2 hl2 kp2=>?_⟩;obtain ⟨dx2,hm2⟩:=hM2.maker;refine ⟨_,rfl,m,CM,dx2,_,_,rfl,hm2,cl,nM,yI _ _ _ _,_,rfl,_,rfl,two,λp2 hp2=>?_⟩;have hM3:=hM2.laid (o:=.tup [.int (v:Nat),.int (t:Nat)]) hp2;refine ⟨md,_,rfl,xN.t (k:=kN v t) hM3.mds aA (by rw[sizeLine_eq];lia),_,rfl,hM3.putM,?_,?_,?_,?_⟩
    ·intro v' t' x e;rw[qL] at e
     by_cases hk:kN v' t'=kN v t
     ·obtain ⟨rfl,rfl⟩:=IZ hk;rw[if_pos rfl] at e;cases e;exact ⟨_,rfl,T.lt,λc' p' n'=>by rw[hmv];exact T.again c' p' n'⟩
     ·rw[if_neg hk] at e;exact ho2 v' t' x e
    ·have:=fX mk2 (kN v t) (.int ((mkT n v t c).2:Nat))
     lia
    ·intro b o z nb;have n3:b≠md:=λy=>nb (by simp[y]);have z1:(upd H p (.tup [.int (v:Nat),.int (t:Nat)])) b=some o:=by rw[aB (aD z hp)];exact z
     have z2:=kp2 b o z1 nb;rw[aB n3,aB (aD z2 hp2)];exact z2
    ·rw[qL,if_pos rfl]
  ·rintro σ1 H1 ⟨mk1,rfl,hM1,ho1,hl1,kp1,hx⟩;obtain ⟨dx1,hm1⟩:=hM1.maker;refine ⟨_,rfl,m,CM,dx1,_,_,rfl,hm1,cl,nM,yI _ _ _ _,_,rfl,_,rfl,two,λp hp=>?_⟩;have hM2:=hM1.laid (o:=.tup [.int (v:Nat),.int (t:Nat)]) hp;exact ⟨md,p,mk1,kN v t,_,rfl,rfl,hM2.mds,.inl aA,hx,q _ mk1 hM2 ho1 hl1 (kp1.trans (aH.laid hp))⟩
structure R7 (K:PySem.W.Frag)(CM f:Addr)(fd:FuncData):Prop where
 make:bN K CM "make" "Maker.make" (sMk 7) ["self","variable","table"] f fd
 new:∃ g gd,bN K CM "make_new" "Maker.make_new" (sMk 6) ["self","variable","table"] g gd
 not:∃ g gd,bN K CM "make_not_asked" "Maker.make_not_asked" (sMk 5) ["self","variable","either"] g gd
 ask:∃ g gd,bN K CM "make_asked" "Maker.make_asked" (sMk 4) ["self","variable","when_false","when_true"] g gd
theorem GJ {CM f:Addr}{fd:FuncData}(N:tH K mg CM)(D:R7 K CM f fd):∀ n,aN P w K mg base CX0 (3+3*n) f fd ["self","variable","table"] (oC K CM n)
 | 0=>by
  obtain ⟨g1,d1,G1⟩:=D.new;obtain ⟨g2,d2,G2⟩:=D.not;obtain ⟨g3,d3,G3⟩:=D.ask;have O2:aN P w K mg base CX0 1 g2 d2 ["self","variable","either"] (λ_ _ _ _=>False):=G2.fn.ok C0 (λus H Q E h=>h.elim) (λcdv A outer s H us Q E hr h=>h.elim);have O3:aN P w K mg base CX0 1 g3 d3 ["self","variable","when_false","when_true"] (λ_ _ _ _=>False):=G3.fn.ok xH (λus H Q E h=>h.elim) (λcdv A outer s H us Q E hr h=>h.elim);exact wW N D.make G1 (wX (Nat.le_refl _) N G1 G2 G3 _ _ O2 O3 λn' z=>by cases z)
 | n+1=>by
  obtain ⟨g1,d1,G1⟩:=D.new;obtain ⟨g2,d2,G2⟩:=D.not;obtain ⟨g3,d3,G3⟩:=D.ask;have ih:aN P w K mg base CX0 (3+3*n) f fd ["self","variable","table"] (oC K CM n):=GJ N D n;have O2:=T5 (k:=3+3*n) (by lia) N D.make ih G2;have O3:=SX (k:=3+3*n) (by lia) N D.make ih G3
  exact wW (k:=3+3*n+1+1) N D.make G1 (wX (by lia) N G1 G2 G3 _ _ O2 O3 λn' z=>by
   have:n=n':=by lia
   subst this
   exact ⟨rfl,rfl⟩)
structure V0 (K:PySem.W.Frag)(CM f:Addr)(fd:FuncData):Prop where
 mak:Mk K CM f
 fn:Fun K "__init__" "Maker.__init__" (sMk 0) f fd
 bd:cZ K fd ["self","how_many"] []
inductive zR (K:PySem.W.Frag) (CM:Addr) (us:List V) (H:Hp) (Q:VK) (E:XK):Prop
 | mk:∀ (m dx:Addr) (hm:Nat),us=[.ref m,.int (hm:Nat)]->H m=some (.ins CM dx [])->(∀ (nl pl md:Addr) (H':Hp),eS K CM H' m nl pl md hm [] []->H nl=none->H pl=none->H md=none->aH [m] H H'->Q .non H')->zR K CM us H Q E
theorem QI:aO ["self","how_many"] ["self","how_many"] (aI (sMk 0)):=by walk_at "s"
theorem M5 {CM f:Addr}{fd:FuncData}(N:OF K mg CM)(F:V0 K CM f fd):aN P w K mg base CX0 1 f fd ["self","how_many"] (zR K CM):=by
 refine F.fn.ok QI (λus H Q E h=>?_) (λcdv A outer s H us Q E hr h=>?_)
 ·walk_at "l"
 ·obtain ⟨m,dx,hm,rfl,h0,q⟩:=h;refine ⟨_,aM (bY (pv 0) (pv 1) rfl) (aM (bY (pv 0) (bD aC) rfl) (aM (bY (pv 0) BN rfl) (aE (bY (pv 0) BN rfl)))),?_⟩;refine ⟨λσ' H'=>σ'=[some (.ref m),some (.int (hm:Nat))]/\H' m=some (.ins CM dx [("how_many",.int (hm:Nat))])/\aH [m] H H',?_,?_⟩
  ·refine ⟨_,rfl,_,rfl,m,CM,dx,_,rfl,h0,N.cl,N.nH,by show 0<1000;decide,rfl,aA.trans (by with_unfolding_all rfl),λb o z nb=>?_⟩;rw[aB (by simpa using nb)];exact z
  ·rintro σ1 H1 ⟨rfl,h1,k1⟩;refine ⟨λσ' H'=>∃ nl,σ'=[some (.ref m),some (.int (hm:Nat))]/\H' m=some (.ins CM dx [("how_many",.int (hm:Nat)),("nodes",.ref nl)])/\H' nl=some (.lst [])/\H nl=none/\nl≠m/\aH [m] H H',?_,?_⟩
   ·refine ⟨Nat.zero_le _,λnl hn=>?_⟩;have nm:m≠nl:=aD h1 hn;refine ⟨_,rfl,m,CM,dx,_,rfl,by rw[aB nm];exact h1,N.cl,N.nN,by show 1<1000;decide,nl,rfl,aA.trans (by with_unfolding_all rfl),by rw[aB (Ne.symm nm),aA],k1.none hn (by simpa using Ne.symm nm),Ne.symm nm,λb o z nb=>?_⟩;have z1:=k1 b o z nb;rw[aB (by simpa using nb),aB (aD z1 hn)];exact z1
   ·rintro σ2 H2 ⟨nl,rfl,h2,hn2,hn0,nm,k2⟩;refine ⟨λσ' H'=>∃ pl,σ'=[some (.ref m),some (.int (hm:Nat))]/\H' m=some (.ins CM dx [("how_many",.int (hm:Nat)),("nodes",.ref nl),("places",.ref pl)])/\H' nl=some (.lst [])/\H' pl=some (.dT [])/\H pl=none/\pl≠m/\aH [m] H H',?_,?_⟩
    ·intro pl hp;have pm:m≠pl:=aD h2 hp;refine ⟨_,rfl,m,CM,dx,_,rfl,by rw[aB pm];exact h2,N.cl,N.nP,by show 2<1000;decide,pl,rfl,aA.trans (by with_unfolding_all rfl),by rw[aB nm,aB (aD hn2 hp)];exact hn2,by rw[aB (Ne.symm pm),aA],k2.none hp (by simpa using Ne.symm pm),Ne.symm pm,λb o z nb=>?_⟩;have z1:=k2 b o z nb;rw[aB (by simpa using nb),aB (aD z1 hp)];exact z1
    ·rintro σ3 H3 ⟨pl,rfl,h3,hn3,hp3,hp0,pm,k3⟩;intro md hd;have dm:m≠md:=aD h3 hd;refine ⟨_,rfl,m,CM,dx,_,rfl,by rw[aB dm];exact h3,N.cl,N.nM,by show 3<1000;decide,?_⟩;refine q nl pl md _ ⟨⟨dx,aA.trans (by with_unfolding_all rfl)⟩,⟨[],by rw[aB nm,aB (aD hn3 hd)];exact hn3,.nil⟩,⟨[],by rw[aB pm,aB (aD hp3 hd)];exact hp3,Nat.le_refl _,λn=>rfl⟩,by rw[aB (Ne.symm dm),aA],aD hp3 hd⟩ hn0 hp0 (k3.none hd (by simpa using Ne.symm dm)) λb o z nb=>?_;have z1:=k3 b o z nb;rw[aB (by simpa using nb),aB (aD z1 hd)];exact z1
abbrev EA:Stmt:=eW (top 8) 0
abbrev pU:Stmt:=top 10
def ciF (nl:Addr)(r:Int):List (Str×V):=[("nodes",.ref nl),("root",.int r)]
theorem eB (nl:Addr)(r:Int):(ciF nl r).lookup ("nodes" : Str)=some (.ref nl):=rfl
theorem oU (nl:Addr)(r:Int):(ciF nl r).lookup ("root" : Str)=some (.int r):=by with_unfolding_all rfl
structure tE (K:PySem.W.Frag)(CC:Addr)(H:Hp)(a nl:Addr)(c:Circuit)(r:Nat):Prop where
 ob:∃ dx,H a=some (.ins CC dx (ciF nl (r:Nat)))
 nds:∃ as:List Addr,H nl=some (.lst (as.map V.ref))/\Paired (λa n=>eO K H a (cR n)) as c
structure R3 (K:PySem.W.Frag)(mg:Str->Option Value)(CC f:Addr)(fd:FuncData):Prop where
 cl:Cls K CC
 mak:Mk K CC f
 nN:aZ K CC "nodes"
 nR:aZ K CC "root"
 at_:mg "Circuit" = some (.ref CC)
 fn:Fun K "__init__" "Circuit.__init__" EA f fd
 bd:cZ K fd ["self","nodes","root"] []
inductive zK (CC:Addr) (us:List V) (H:Hp) (Q:VK) (E:XK):Prop
 | mk:∀ (a nl dx:Addr) (r:Nat),us=[.ref a,.ref nl,.int (r:Nat)]->H a=some (.ins CC dx [])->(∀ H':Hp,H' a=some (.ins CC dx (ciF nl (r:Nat)))->aH [a] H H'->Q .non H')->zK CC us H Q E
theorem QC:aO ["self","nodes","root"] ["self","nodes","root"] (aI EA):=by walk_at "s"
theorem LX {CC f:Addr}{fd:FuncData}(T:R3 K mg CC f fd):aN P w K mg base CX0 1 f fd ["self","nodes","root"] (zK CC):=by
 refine T.fn.ok QC (λus H Q E h=>?_) (λcdv A outer s H us Q E hr h=>?_)
 ·walk_at "l"
 ·obtain ⟨a,nl,dx,r,rfl,h0,q⟩:=h;refine ⟨_,aG (bY (pv 0) (pv 1) rfl) (aE (bY (pv 0) (pv 2) rfl)),?_⟩;refine ⟨_,rfl,_,rfl,a,CC,dx,_,rfl,h0,T.cl,T.nN,by show 0<1000;decide,_,rfl,_,rfl,a,CC,dx,_,rfl,aA,T.cl,T.nR,by show 1<1000;decide,q _ (aA.trans (by with_unfolding_all rfl)) λb o z nb=>?_⟩;have nb':b≠a:=by simpa using nb
  rw[aB nb',aB nb'];exact z
structure K8 (K:PySem.W.Frag)(mg:Str->Option Value)(CM CC:Addr):Prop where
 mg_:tH K mg CM
 md:∃ f fd,R7 K CM f fd
 mi:∃ f fd,V0 K CM f fd
 cc:∃ f fd,R3 K mg CC f fd
inductive v9 (K:PySem.W.Frag) (CC:Addr) (us:List V) (H:Hp) (Q:VK) (E:XK):Prop
 | mk:∀ t n:Nat,us=[.int (t:Nat),.int (n:Nat)]->n<=12->t<pw n->(∀ (a nl:Addr) (H':Hp),tE K CC H' a nl (mkT n 0 t []).1 (mkT n 0 t []).2->H a=none->H nl=none->aH [] H H'->Q (.ref a) H')->v9 K CC us H Q E
theorem v0:aO ["table","how_many","maker","root"] ["table","how_many"] (aI pU):=by walk_at "s"
theorem JA {CM CC f:Addr}{fd:FuncData}(N:K8 K mg CM CC)(F:Def K mg "circuit_of" pU ["table","how_many"] f fd):aN P w K mg base CX0 40 f fd ["table","how_many"] (v9 K CC):=by
 obtain ⟨g1,d1,G1⟩:=N.mi;obtain ⟨g2,d2,G2⟩:=N.md;obtain ⟨g3,d3,G3⟩:=N.cc;have MC:=N.mg_.pg.mc;have O1:aN P w K mg base CX0 1 g1 d1 ["self","how_many"] (zR K CM):=M5 MC G1;have O3:aN P w K mg base CX0 1 g3 d3 ["self","nodes","root"] (zK CC):=LX G3;refine F.fn.ok v0 (λus H Q E h=>?_) (λcdv A outer s H us Q E hr h=>?_)
 ·walk_at "l"
 ·obtain ⟨t,n,rfl,h12,htl,q⟩:=h;have O2:aN P w K mg base CX0 (3+3*n) g2 d2 ["self","variable","table"] (oC K CM n):=GJ N.mg_ G2 n
  refine ⟨_,aM (aQ (i:=2) v0.nd rfl (Or.inl rfl) (cD G1.mak O1 (hr.mono (by decide)) (by rfl) MC.at_ G1.bd .nil aR (a9 (pv 1) aC)))
   (aM (aQ (i:=3) v0.nd rfl (Or.inl rfl) (bA (pv 2) MC.cl G2.make.me O2 (hr.mono (by lia)) G2.make.bd .nil aR (a9 aF (a9 (pv 0) aC))))
   (aE (aP (cD G3.mak O3 (hr.mono (by decide)) (by rfl) G3.at_ G3.bd .nil aR (a9 (aJ (pv 2) rfl) (a9 (pv 3) aC)))))),?_⟩
  have h2:2^n<=4096:=i6 h12;refine ⟨λσ' H'=>∃ m nl pl md,σ'=[some (.int (t:Nat)),some (.int (n:Nat)),some (.ref m),none]/\eS K CM H' m nl pl md n [] []/\H m=none/\H nl=none/\H pl=none/\H md=none/\aH [] H H',?_,?_⟩
  ·refine ⟨_,rfl,λm dm hm0 hd0 ne=>?_⟩;have kk:aH [] H (upd (upd H dm (.own m)) m (.ins CM dm [])):=λc o z _=>by rw[aB (aD z hm0),aB (aD z hd0)];exact z
   exact ⟨m,dm,n,rfl,aA,λnl pl md H' hM n1 n2 n3 k=>⟨rfl,m,nl,pl,md,rfl,hM,hm0,kk.none n1 (by simp),kk.none n2 (by simp),kk.none n3 (by simp),λc o z _=>k c o (kk c o z (by simp)) (by simpa using aD z hm0)⟩⟩
  ·rintro σ1 H1 ⟨m,nl,pl,md,rfl,hM,m0,n0,p0,d0,k1⟩;obtain ⟨dx,hm0⟩:=hM.maker;have hl:=jR n 0 t [];refine ⟨λσ' H'=>∃ mk,σ'=[some (.int (t:Nat)),some (.int (n:Nat)),some (.ref m),some (.int ((mkT n 0 t []).2:Nat))]/\eS K CM H' m nl pl md n (mkT n 0 t []).1 mk/\aH [] H H',?_,?_⟩
   ·refine ⟨_,rfl,m,dx,_,rfl,hm0,iI.2.2.2.2.2.2,_,rfl,m,nl,pl,md,n,0,t,[],[],rfl,by lia,h12,htl,hM,(λv t x e=>by cases e),List.nodup_nil,by rw[List.length_nil];lia,by rw[List.length_nil];lia,λH' mk' a1 _ _ a4=>⟨mk',rfl,a1,?_⟩⟩;exact aH.fresh (S':=[nl,pl,md]) ((k1.mono (by simp)).trans a4) (by simp[n0,p0,d0])
   ·rintro σ2 H2 ⟨mk,rfl,hM2,k2⟩;obtain ⟨dx2,hm2⟩:=hM2.maker;obtain ⟨as,hn2,hp2⟩:=hM2.nds;refine ⟨_,rfl,m,CM,dx2,_,_,rfl,hm2,MC.cl,MC.nN,eX _ _ _ _,_,rfl,λa da ha0 hd0 ne=>?_⟩;have kk:aH [] H2 (upd (upd H2 da (.own a)) a (.ins CC da [])):=λc o z _=>by rw[aB (aD z ha0),aB (aD z hd0)];exact z
    refine ⟨a,nl,da,(mkT n 0 t []).2,rfl,aA,λH' e k=>⟨rfl,?_⟩⟩;have kf:aH [] H2 H':=λc o z _=>k c o (kk c o z (by simp)) (by simpa using aD z ha0);exact q a nl H' ⟨⟨da,e⟩,as,kf _ _ hn2 (by simp),Paired.mapP hp2 λ_ _ z=>z.keep kf (by simp)⟩ (k2.none ha0 (by simp)) n0 (k2.trans kf)
abbrev sCi (j:Nat):Stmt:=eW (top 8) j
structure rY (K:PySem.W.Frag)(mg:Str->Option Value)(CC:Addr):Prop where
 cl:Cls K CC
 nN:aZ K CC "nodes"
 nR:aZ K CC "root"
 len:mg "len" = none
theorem yX {β:Type}{F:Addr->β->Prop}{as:List Addr}{ys:List β}{i:Nat}{v:V}(hp:Paired F as ys)(h:(as.map V.ref)[i]?=some v):∃ x n,v=.ref x/\as[i]?=some x/\ys[i]?=some n/\F x n:=by
 rw[List.getElem?_map] at h
 cases e:as[i]? with
 | none=>rw[e] at h;cases h
 | some x=>
  rw[e] at h;cases h;obtain ⟨n,h1,h2⟩:=L2.bM hp e;exact ⟨x,n,rfl,rfl,h1,h2⟩
theorem eO.keep0 {K:PySem.W.Frag}{H H':Hp}{b:Addr}{ks:List Key}(h:eO K H b ks)(k:aH [] H H'):eO K H' b ks:=h.keep k (by simp)
inductive jA (K:PySem.W.Frag) (CC:Addr) (us:List V) (H:Hp) (Q:VK) (E:XK):Prop
 | mk:∀ (a nl:Addr) (c:Circuit) (r:Nat) (k:Int),us=[.ref a,.int k]->tE K CC H a nl c r->Q (.bl (decide (0<=k/\k<c.length))) H->jA K CC us H Q E
theorem JR:aO ["self","number"] ["self","number"] (aI (sCi 1)):=by walk_at "s"
theorem nI {CC f:Addr}{fd:FuncData}(N:rY K mg CC)(F:bN K CC "has_node" "Circuit.has_node" (sCi 1) ["self","number"] f fd):aN P w K mg base CX0 1 f fd ["self","number"] (jA K CC):=by
 refine F.fn.ok JR (λus H Q E h=>?_) (λcdv A outer s H us Q E hr h=>?_)
 ·walk_at "l"
 ·obtain ⟨a,nl,c,r,k,rfl,hC,q⟩:=h;obtain ⟨dx,ho⟩:=hC.ob;obtain ⟨as,hn,hp⟩:=hC.nds;have hl:as.length=c.length:=bB hp;refine ⟨_,aE (aP (iX pL eZ aF (pv 1) (b9 aU (by rfl) N.len PySem.boot_len (a9 (aJ (pv 0) rfl) aC)))),?_⟩;k_caughtN0
  by_cases h0:0<=k
  ·rw[if_pos (decide_eq_true h0)];refine ⟨_,rfl,a,CC,dx,_,_,rfl,ho,N.cl,N.nN,eB _ _,nl,rfl,_,.inl (SqL.of hn),?_⟩;rw[List.length_map,hl];simpa [h0] using q
  ·rw[if_neg (by simpa using h0)];simpa [h0] using q
def qT (k:Int):CNode->Bool
 | .const _=>decide (k=0)
 | .yes _=>decide (k=1)
 | .no _=>decide (k=2)
 | .add _ _=>decide (k=3)
 | .mul _ _=>decide (k=4)
def kindOf:CNode->Int
 | .const _=>0
 | .yes _=>1
 | .no _=>2
 | .add _ _=>3
 | .mul _ _=>4
theorem G8 (n:CNode):atI ((cR n).map kV) 0=some (.int (kindOf n)):=by cases n<;>rfl
theorem IT (k:Int)(n:CNode):qT k n=decide (kindOf n=k):=by
 cases n<;>exact decide_eq_decide.mpr ⟨λh=>h.symm,λh=>h.symm⟩
inductive zL (K:PySem.W.Frag) (CC:Addr) (us:List V) (H:Hp) (Q:VK) (E:XK):Prop
 | mk:∀ (a nl:Addr) (c:Circuit) (r:Nat) (k:Int),us=[.ref a,.int k]->tE K CC H a nl c r->c.length<=2000->(∀ H',aH [] H H'->Q (.int ((c.filter (qT k)).length:Nat)) H')->zL K CC us H Q E
theorem yZ:aO ["self","kind","node"] ["self","kind"] (aI (sCi 2)):=by walk_at "s"
theorem KO:tD ["self","kind","node"] (aI (sCi 2)) { kind:=.function,names:=[(".0",.local),("node",.local),("kind",.free)],isGenerator:=false,isCoroutine:=false } [("node",2)]:=
 ⟨rfl,by decide +kernel,by decide +kernel,by decide +kernel,by decide +kernel⟩
theorem LZ {CC f:Addr}{fd:FuncData}(N:rY K mg CC)(F:bN K CC "count_kind" "Circuit.count_kind" (sCi 2) ["self","kind"] f fd):aN P w K mg base CX0 1 f fd ["self","kind"] (zL K CC):=by
 refine F.fn.ok yZ (λus H Q E h=>?_) (λcdv A outer s H us Q E hr h=>?_)
 ·walk_at "l"
 ·obtain ⟨a,nl,c,r,k,rfl,hC,hc2,q⟩:=h;obtain ⟨dx,ho⟩:=hC.ob;obtain ⟨as,hn,hp⟩:=hC.nds;have hl:as.length=c.length:=bB hp
  refine ⟨_,aE (aP (b9 aU (by rfl) N.len PySem.boot_len (a9 (GQ (own:=[("node",2)]) rfl yZ.nd (jV (aJ (pv 0) rfl)) KO
   (λ_ _ _ _ _=>dQ (i:=2) yZ.nd rfl (Or.inl rfl)) (λ_ _ _ _ _=>Q6 (aT bV (aK (r:=Q7 K) aW (pv 2) aF (λ_ _=>rfl)) (pv 1) (aY _))) (λ_ _ _ _ _=>pv 2)) aC))),?_⟩
  refine ⟨_,rfl,a,CC,dx,_,_,rfl,ho,N.cl,N.nN,eB _ _,nl,rfl,⟨_,SqL.of hn⟩,λD nD=>?_⟩
  refine yE (K:=K) (a:=nl) (xs:=as.map V.ref) (λi H'=>(∃ zs:List Addr,H' D=some (.lst (zs.map V.ref))/\zs.length=((c.take i).filter (qT k)).length)/\aH [] H H')
   ⟨⟨[],aA,rfl⟩,aH.laid nD⟩ (λi H' _ z=>SqL.of (z.2 _ _ hn (by simp))) ?_ ?_
  ·rintro i y H' hy ⟨⟨zs,z1,z2⟩,z3⟩;obtain ⟨x,n,rfl,hx,hcn,hk⟩:=yX hp hy;refine ⟨rfl,?_⟩;refine ⟨_,rfl,x,_,0,_,rfl,rfl,(hk.keep0 z3).sq,G8 n,_,rfl,rfl,_,rfl,?_⟩;have tk:c.take (i+1)=c.take i++[n]:=by rw[List.take_succ,hcn];rfl
   have il:i<c.length:=(List.getElem?_eq_some_iff.mp hcn).1
   show if decide (V.int (kindOf n)=V.int k)=true then _ else _
   rw[cV,← IT]
   by_cases hq:qT k n=true
   ·rw[if_pos hq];refine ⟨_,rfl,_,z1,?_,⟨zs++[x],by rw[aA,List.map_append];rfl,?_⟩,λb o q0 _=>?_⟩
    ·rw[List.length_map,z2];exact Nat.lt_of_le_of_lt (Nat.le_trans (List.length_filter_le _ _) (by rw[List.length_take];lia)) (show 2000<sizeLine by decide)
    ·rw[tk,List.filter_append,List.length_append,List.length_append,z2,List.filter_cons_of_pos hq];rfl
    ·rw[aB (aD q0 nD)];exact z3 b o q0 (by simp)
   ·rw[if_neg hq];exact ⟨⟨zs,z1,by rw[tk,List.filter_append,List.length_append,List.filter_cons_of_neg hq,z2];rfl⟩,z3⟩
  ·rintro H' ⟨⟨zs,z1,z2⟩,z3⟩;rw[List.length_map,hl,List.take_length] at z2;refine ⟨D,_,rfl,.inl (SqL.of z1),?_⟩;rw[List.length_map,z2];exact q H' z3
abbrev EF:Stmt:=eW (top 85) 0
abbrev j5:Stmt:=top 86
abbrev gX:Stmt:=top 87
abbrev xG:Stmt:=top 88
abbrev uY:Stmt:=top 89
theorem dY {X:Cx}:OpR X (binaryOp .Mult) (rI (λi j=>i.natAbs.log2<9000/\j.natAbs.log2<9000) λi j=>.int (i*j)):=opI λi j _ _ _ _ _ hc q=>by
 have bb:∀ x:Int,x.natAbs.log2<9000->Builtin.Int.intBits x<=2^20:=λx h=>by
  unfold Builtin.Int.intBits
  split
  ·exact Nat.zero_le _
  ·lia
 exact mul_int q (IntMulOk.of_bits (bb i hc.1) (bb j hc.2))
theorem yF {n k:Nat}(h:n<2^k)(hk:k<=9000):n.log2<9000:=by
 by_cases z:n=0
 ·subst z;show 0<9000;decide
 ·exact Nat.lt_of_lt_of_le ((Nat.log2_lt z).mpr h) hk
theorem bL {n k:Nat}(h:n<2^k)(hk:k<=9000):((n:Nat):Int).natAbs.log2<9000:=yF (by rw[Int.natAbs_natCast];exact h) hk
def wtF (y n b:Int):List (Str×V):=[("yes",.int y),("no",.int n),("bottom",.int b)]
theorem A7 (y n b:Int):(wtF y n b).lookup ("yes" : Str)=some (.int y):=rfl
theorem S3 (y n b:Int):(wtF y n b).lookup ("no" : Str)=some (.int n):=by with_unfolding_all rfl
theorem vS (y n b:Int):(wtF y n b).lookup ("bottom" : Str)=some (.int b):=by with_unfolding_all rfl
def kR (CW:Addr)(H:Hp)(a:Addr)(w:RW):Prop:=∃ dx,H a=some (.ins CW dx (wtF (w.y:Nat) (w.n:Nat) (w.b:Nat)))
def i7 (CW:Addr)(H:Hp)(wl:Addr)(ws:List RW):Prop:=∃ as:List Addr,H wl=some (.lst (as.map V.ref))/\Paired (kR CW H) as ws
theorem kR.keep {CW a:Addr}{H H':Hp}{w:RW}(h:kR CW H a w)(k:aH [] H H'):kR CW H' a w:=by
 obtain ⟨dx,e⟩:=h;exact ⟨dx,k _ _ e (by simp)⟩
theorem i7.keep {CW wl:Addr}{H H':Hp}{ws:List RW}(h:i7 CW H wl ws)(k:aH [] H H'):i7 CW H' wl ws:=by
 obtain ⟨as,e,p⟩:=h;exact ⟨as,k _ _ e (by simp),Paired.mapP p λ_ _ z=>z.keep k⟩
theorem kR.lst {CW a D:Addr}{H:Hp}{w:RW}{xs ys:List V}(h:kR CW H a w)(hD:H D=some (.lst xs)):kR CW (upd H D (.lst ys)) a w:=by
 obtain ⟨dx,e⟩:=h;exact ⟨dx,by rw[aB (bI e hD (by intro z;cases z))];exact e⟩
theorem aH.upd0 {H H':Hp}{D:Addr}{o:HO}(k:aH [] H H')(n:H D=Option.none):aH [] H (upd H' D o):=λb u z _=>by
 rw[aB (aD z n)];exact k b u z (by simp)
theorem uE {H H':Hp}{x dx:Addr}{o1 o2:HO}(hx:H x=Option.none)(hd:H dx=Option.none)(kp:aH [x] (upd (upd H dx o1) x o2) H'):aH [] H H':=λc o z _=>
 kp c o (by rw[aB (aD z hx),aB (aD z hd)];exact z) (by simpa using aD z hx)
structure eU (K:PySem.W.Frag)(mg:Str->Option Value)(CW f:Addr)(fd:FuncData):Prop where
 cl:Cls K CW
 mak:Mk K CW f
 nY:aZ K CW "yes"
 nN:aZ K CW "no"
 nB:aZ K CW "bottom"
 at_:mg "Weight" = some (.ref CW)
 fn:Fun K "__init__" "Weight.__init__" EF f fd
 bd:cZ K fd ["self","yes","no","bottom"] []
inductive kG (CW:Addr) (us:List V) (H:Hp) (Q:VK) (E:XK):Prop
 | mk:∀ (a dx:Addr) (y n b:Int),us=[.ref a,.int y,.int n,.int b]->H a=some (.ins CW dx [])->(∀ H':Hp,H' a=some (.ins CW dx (wtF y n b))->aH [a] H H'->Q .non H')->kG CW us H Q E
theorem QQ:aO ["self","yes","no","bottom"] ["self","yes","no","bottom"] (aI EF):=by walk_at "s"
theorem pJ {CW f:Addr}{fd:FuncData}(T:eU K mg CW f fd):aN P w K mg base CX0 1 f fd ["self","yes","no","bottom"] (kG CW):=by
 refine T.fn.ok QQ (λus H Q E h=>?_) (λcdv A outer s H us Q E hr h=>?_)
 ·walk_at "l"
 ·obtain ⟨a,dx,y,n,b,rfl,ha,q⟩:=h;refine ⟨_,aG (bY (pv 0) (pv 1) rfl) (aG (bY (pv 0) (pv 2) rfl) (aE (bY (pv 0) (pv 3) rfl))),?_⟩;refine ⟨_,rfl,_,rfl,a,CW,dx,_,rfl,ha,T.cl,T.nY,by show 0<1000;decide,?_⟩;refine ⟨_,rfl,_,rfl,a,CW,dx,_,rfl,aA,T.cl,T.nN,by show 1<1000;decide,?_⟩;refine ⟨_,rfl,_,rfl,a,CW,dx,_,rfl,aA,T.cl,T.nB,by show 2<1000;decide,?_⟩;refine q _ (Eq.trans aA (congrArg (λz=>some (HO.ins CW dx z)) (by with_unfolding_all rfl))) λb o z nb=>?_;have nb':b≠a:=by simpa using nb
  rw[aB nb',aB nb',aB nb'];exact z
theorem A6 {CW:Addr}{H:Hp}{Q:VK}{y n b:Int}(r:RW)(e1:y=(r.y:Nat))(e2:n=(r.n:Nat))(e3:b=(r.b:Nat))(q:∀ (t:Addr) (H':Hp),kR CW H' t r->H t=none->aH [] H H'->Q (.ref t) H'):
  ∀ x dx:Addr,H x=none->H dx=none->dx≠x->kG CW [.ref x,.int y,.int n,.int b] (upd (upd H dx (.own x)) x (.ins CW dx [])) (λv H2=>v=.non/\Q (.ref x) H2) E0:=
 λx dx hx hd ne=>⟨x,dx,y,n,b,rfl,aA,λH' to kp=>⟨rfl,q x H' ⟨dx,by rw[to,e1,e2,e3]⟩ hx λc o z _=>kp c o (by rw[aB (aD z hx),aB (aD z hd)];exact z) (by simpa using aD z hx)⟩⟩
def AO (f:Frac):HO:=.tup [.int f.num,.int (f.den:Nat)]
structure S6 (f:Frac):Prop where
 norm:AE f
 nn:0<=f.num
 b1:f.num<=10^18
 b2:f.den<=10^18
structure KG (K:PySem.W.Frag)(mg:Str->Option Value):Prop where
 ab:mg "abs" = none
 gcd:∃ g gd,Def K mg "common_divisor" EC ["a","b"] g gd
 low:∃ g gd,Def K mg "lowest_terms" JM ["top","bottom"] g gd
inductive oE (CW:Addr) (us:List V) (H:Hp) (Q:VK) (E:XK):Prop
 | mk:∀ (a b:Addr) (f g:Frac),us=[.ref a,.ref b]->H a=some (AO f)->H b=some (AO g)->S6 f->S6 g->(∀ (t:Addr) (H':Hp),kR CW H' t (xJ f g)->H t=none->aH [] H H'->Q (.ref t) H')->oE CW us H Q E
theorem kD:aO ["yes","no","divisor","to_yes","to_no"] ["yes","no"] (aI j5):=by walk_at "s"
theorem BH {CW f fW:Addr}{fd wd:FuncData}(R:KG K mg)(T:eU K mg CW fW wd)(F:Def K mg "weight_of" j5 ["yes","no"] f fd):aN P w K mg base CX0 3 f fd ["yes","no"] (oE CW):=by
 obtain ⟨g1,d1,G1⟩:=R.gcd;have O1:aN P w K mg base CX0 1 g1 d1 ["a","b"] HP:=M2 R.ab G1;have O2:aN P w K mg base CX0 1 fW wd ["self","yes","no","bottom"] (kG CW):=pJ T;refine F.fn.ok kD (λus H Q E h=>?_) (λcdv A outer s H us Q E hr h=>?_)
 ·walk_at "l"
 ·obtain ⟨a,b,f,g,rfl,ha,hb,hf,hg,q⟩:=h
  refine ⟨_,aM (aQ (i:=2) kD.nd rfl (Or.inl rfl) (aS O1 (hr.mono (by decide)) (by rfl) G1.at_ G1.fn.kp G1.bd .nil aR (a9 (aK aW (pv 0) aF (λ_ _=>rfl)) (a9 (aK aW (pv 1) aF (λ_ _=>rfl)) aC))))
   (aM (aQ (i:=3) kD.nd rfl (Or.inl rfl) (b7 pK (aK aW (pv 1) aF (λ_ _=>rfl)) (pv 2)))
   (aM (aQ (i:=4) kD.nd rfl (Or.inl rfl) (b7 pK (aK aW (pv 0) aF (λ_ _=>rfl)) (pv 2)))
   (aE (aP (cD T.mak O2 hr (by rfl) T.at_ T.bd .nil aR (a9 (b7 dY (aK aW (pv 0) aF (λ_ _=>rfl)) (pv 3)) (a9 (b7 dY (aK aW (pv 1) aF (λ_ _=>rfl)) (pv 4)) (a9 (b7 dY (aK aW (pv 0) aF (λ_ _=>rfl)) (pv 3)) aC)))))))),?_⟩
  have gp:0<Nat.gcd f.den g.den:=Nat.gcd_pos_of_pos_left _ hf.norm.1;have e18:(10:Nat)^18<2^60:=by decide +kernel
  have lg:(Nat.gcd f.den g.den)<2^60:=Nat.lt_of_le_of_lt (Nat.le_trans (Nat.gcd_le_left _ hf.norm.1) hf.b2) e18;have gI:(0:Int)<((Nat.gcd f.den g.den:Nat):Int):=by lia
  have ef:f.num=((f.num.toNat:Nat):Int):=(Int.toNat_of_nonneg hf.nn).symm;have eg:g.num=((g.num.toNat:Nat):Int):=(Int.toNat_of_nonneg hg.nn).symm;have b1:=hf.b1;have b2:=hf.b2;have b3:=hg.b1;have b4:=hg.b2;have lf:g.den / Nat.gcd f.den g.den<2^60:=Nat.lt_of_le_of_lt (Nat.le_trans (Nat.div_le_self _ _) b4) e18;have lg2:f.den / Nat.gcd f.den g.den<2^60:=Nat.lt_of_le_of_lt (Nat.le_trans (Nat.div_le_self _ _) b2) e18;have n1:f.num.toNat<2^60:=by lia
  have n2:g.num.toNat<2^60:=by lia
  have n3:f.den<2^60:=by lia
  refine ⟨λσ' H'=>σ'=[some (.ref a),some (.ref b),some (.int (Nat.gcd f.den g.den:Nat)),none,none]/\H'=H,?_,?_⟩
  ·exact ⟨_,rfl,a,_,1,_,rfl,rfl,SqT.of ha,rfl,_,rfl,b,_,1,_,rfl,rfl,SqT.of hb,rfl,f.den,g.den,rfl,rfl,rfl⟩
  ·rintro σ1 H1 ⟨rfl,rfl⟩;refine ⟨λσ' H'=>σ'=[some (.ref a),some (.ref b),some (.int (Nat.gcd f.den g.den:Nat)),some (.int ((g.den / Nat.gcd f.den g.den:Nat):Int)),none]/\H'=H1,?_,?_⟩
   ·refine ⟨_,rfl,b,_,1,_,rfl,rfl,SqT.of hb,rfl,_,rfl,_,_,rfl,rfl,⟨gI,bL lg (by decide)⟩,?_,rfl⟩;rw[Int.natCast_ediv];rfl
   ·rintro σ1 H1 ⟨rfl,rfl⟩;refine ⟨λσ' H'=>σ'=[some (.ref a),some (.ref b),some (.int (Nat.gcd f.den g.den:Nat)),some (.int ((g.den / Nat.gcd f.den g.den:Nat):Int)),some (.int ((f.den / Nat.gcd f.den g.den:Nat):Int))]/\H'=H1,?_,?_⟩
    ·refine ⟨_,rfl,a,_,1,_,rfl,rfl,SqT.of ha,rfl,_,rfl,_,_,rfl,rfl,⟨gI,bL lg (by decide)⟩,?_,rfl⟩;rw[Int.natCast_ediv];rfl
    ·rintro σ1 H1 ⟨rfl,rfl⟩;refine ⟨_,rfl,a,_,0,_,rfl,rfl,SqT.of ha,rfl,_,rfl,_,_,rfl,rfl,⟨by rw[ef];exact bL n1 (by decide),bL lf (by decide)⟩,?_⟩;refine ⟨_,rfl,b,_,0,_,rfl,rfl,SqT.of hb,rfl,_,rfl,_,_,rfl,rfl,⟨by rw[eg];exact bL n2 (by decide),bL lg2 (by decide)⟩,?_⟩;refine ⟨_,rfl,a,_,1,_,rfl,rfl,SqT.of ha,rfl,_,rfl,_,_,rfl,rfl,⟨bL n3 (by decide),bL lf (by decide)⟩,?_⟩;exact A6 (xJ f g) (by show _=((_*_:Nat):Int);rw[Int.natCast_mul,← ef]) (by show _=((_*_:Nat):Int);rw[Int.natCast_mul,← eg]) (by show _=((_*_:Nat):Int);rw[Int.natCast_mul]) q
inductive o9 (CW:Addr) (us:List V) (H:Hp) (Q:VK) (E:XK):Prop
 | mk:∀ (a:Addr) (f:Frac),us=[.ref a]->H a=some (AO f)->CP f->(∀ (t:Addr) (H':Hp),kR CW H' t (IG f.num.toNat f.den)->H t=none->aH [] H H'->Q (.ref t) H')->o9 CW us H Q E
theorem EG:aO ["chance"] ["chance"] (aI gX):=by walk_at "s"
theorem BA {CW f fW:Addr}{fd wd:FuncData}(T:eU K mg CW fW wd)(F:Def K mg "weight_by_chance" gX ["chance"] f fd):aN P w K mg base CX0 3 f fd ["chance"] (o9 CW):=by
 have O2:aN P w K mg base CX0 1 fW wd ["self","yes","no","bottom"] (kG CW):=pJ T;refine F.fn.ok EG (λus H Q E h=>?_) (λcdv A outer s H us Q E hr h=>?_)
 ·walk_at "l"
 ·obtain ⟨a,f,rfl,ha,hf,q⟩:=h;refine ⟨_,aE (aP (cD T.mak O2 hr (by rfl) T.at_ T.bd .nil aR (a9 (aK aW (pv 0) aF (λ_ _=>rfl)) (a9 (b7 gG (aK aW (pv 0) aF (λ_ _=>rfl)) (aK aW (pv 0) aF (λ_ _=>rfl))) (a9 (aK aW (pv 0) aF (λ_ _=>rfl)) aC))))),?_⟩;have e:f.num=((f.num.toNat:Nat):Int):=(Int.toNat_of_nonneg hf.nn).symm;have l:=hf.le;refine ⟨_,rfl,a,_,0,_,rfl,rfl,SqT.of ha,rfl,?_⟩;refine ⟨_,rfl,a,_,1,_,rfl,rfl,SqT.of ha,rfl,_,rfl,a,_,0,_,rfl,rfl,SqT.of ha,rfl,_,_,rfl,rfl,?_⟩;refine ⟨_,rfl,a,_,1,_,rfl,rfl,SqT.of ha,rfl,?_⟩;exact A6 (IG f.num.toNat f.den) e (by show _=((f.den-f.num.toNat:Nat):Int);lia) rfl q
inductive ER (CW:Addr) (us:List V) (H:Hp) (Q:VK) (E:XK):Prop
 | mk:∀ n:Nat,us=[.int (n:Nat)]->n<=12->(∀ (t:Addr) (H':Hp),i7 CW H' t (fI n)->H t=none->aH [] H H'->Q (.ref t) H')->ER CW us H Q E
theorem EJ:aO ["how_many","variable"] ["how_many"] (aI xG):=by walk_at "s"
theorem OL:tD ["how_many","variable"] (aI xG) { kind:=.function,names:=[(".0",.local),("variable",.local),("Weight",.globalImplicit)],isGenerator:=false,isCoroutine:=false } [("variable",1)]:=
 ⟨rfl,by decide +kernel,by decide +kernel,by decide +kernel,by decide +kernel⟩
theorem PN {CW f fW:Addr}{fd wd:FuncData}(rg:mg "range" = none)(T:eU K mg CW fW wd)(F:Def K mg "weights_of_one" xG ["how_many"] f fd):aN P w K mg base CX0 3 f fd ["how_many"] (ER CW):=by
 have O2:aN P w K mg base CX0 1 fW wd ["self","yes","no","bottom"] (kG CW):=pJ T;refine F.fn.ok EJ (λus H Q E h=>?_) (λcdv A outer s H us Q E hr h=>?_)
 ·walk_at "l"
 ·obtain ⟨n,rfl,h12,q⟩:=h
  refine ⟨_,aE (aP (GQ (own:=[("variable",1)]) rfl EJ.nd (mF rfl rg (a9 (pv 0) aC)) OL
   (λ_ _ _ _ _=>dQ (i:=1) EJ.nd rfl (Or.inl rfl)) (λ_ _ _ _ _=>yU) (λ_ _ _ _ _=>cD T.mak O2 hr (by rfl) T.at_ T.bd .nil aR (a9 aF (a9 aF (a9 aF aC)))))),?_⟩
  refine ⟨_,rfl,(n:Nat),rfl,by lia,by lia,λD nD=>?_⟩;refine LN (n:=((n:Nat):Int).toNat) (λi H'=>(∃ as:List Addr,H' D=some (.lst (as.map V.ref))/\Paired (kR CW H') as (fI i))/\aH [] H H') ⟨⟨[],aA,.nil⟩,aH.laid nD⟩ ?_ ?_
  ·rintro i H' hi ⟨⟨as,z1,z2⟩,z3⟩;refine ⟨rfl,?_⟩
   refine A6 (H:=H') (Q:=λy H4=>∃ acc,H4 D=some (HO.lst acc)/\acc.length<sizeLine/\(∃ as:List Addr,upd H4 D (HO.lst (acc++[y])) D=some (HO.lst (List.map V.ref as))/\Paired (kR CW (upd H4 D (HO.lst (acc++[y])))) as (fI (i+1)))/\aH [] H (upd H4 D (HO.lst (acc++[y])))) ⟨1,1,1⟩ rfl rfl rfl λt H4 ht nt k4=>⟨_,k4 _ _ z1 (by simp),?_,⟨as++[t],by rw[aA,List.map_append];rfl,?_⟩,(z3.trans k4).upd0 nD⟩
   ·have:=bB z2
    rw[List.length_map,this];exact Nat.lt_of_le_of_lt (show (fI i).length<=12 by rw[fI,List.length_replicate];lia) (show 12<sizeLine by decide)
   ·have e:fI (i+1)=fI i++[⟨1,1,1⟩]:=List.replicate_succ';rw[e];exact (Paired.mapP z2 λ_ _ z=>(z.keep k4).lst (k4 _ _ z1 (by simp))).snoc (ht.lst (k4 _ _ z1 (by simp)))
  ·rintro H' ⟨⟨as,z1,z2⟩,z3⟩;exact q D H' ⟨as,z1,z2⟩ nD z3
theorem tP:bootBuiltins "list" = some (.type "list"):=by decide +kernel
def gR (ws:List RW)(ks:List Nat):List RW:=ks.foldl (λr k=>r.set k (bW (ws.getD k rw0))) ws
inductive zQ (K:PySem.W.Frag) (CW:Addr) (us:List V) (H:Hp) (Q:VK) (E:XK):Prop
 | mk:∀ (wl kl:Addr) (ws:List RW) (ks:List Nat),us=[.ref wl,.ref kl]->i7 CW H wl ws->SqL K H kl (ks.map λk=>V.int (k:Nat))->(∀ k∈ks,k<ws.length)->(∀ (t:Addr) (H':Hp),i7 CW H' t (gR ws ks)->H t=none->aH [] H H'->Q (.ref t) H')->zQ K CW us H Q E
theorem zC:aO ["weights","known","changed","variable"] ["weights","known"] (aI uY):=by walk_at "s"
theorem pD {n j:Nat}(h:j<n):ixN n (j:Int)=some j:=by
 unfold ixN;rw[if_pos (by lia),if_pos (by lia)];rfl
theorem jU {α β:Type}{F:α->β->Prop}:∀ {xs:List α} {ys:List β} {i:Nat} {x:α} {y:β},Paired F xs ys->F x y->Paired F (xs.set i x) (ys.set i y)
 | _,_,i,x,y,.nil,_=>by rw[List.set_nil,List.set_nil];exact .nil
 | _,_,0,x,y,.cons _ r,h=>.cons h r
 | _,_,i+1,x,y,.cons a r,h=>.cons a (jU r h)
theorem M4 {CW f fW:Addr}{fd wd:FuncData}(ls:mg "list" = none)(T:eU K mg CW fW wd)(F:Def K mg "weights_known_true" uY ["weights","known"] f fd):aN P w K mg base CX0 3 f fd ["weights","known"] (zQ K CW):=by
 have O2:aN P w K mg base CX0 1 fW wd ["self","yes","no","bottom"] (kG CW):=pJ T;refine F.fn.ok zC (λus H Q E h=>?_) (λcdv A outer s H us Q E hr h=>?_)
 ·walk_at "l"
 ·obtain ⟨wl,kl,ws,ks,rfl,⟨as,hw,hp⟩,hk,hlt,q⟩:=h
  refine ⟨_,aM (aQ (i:=2) zC.nd rfl (Or.inl rfl) (r9 jL (by rfl) ls tP (a9 (pv 0) aC)))
   (aM (jX PassesOwn.never rfl (jV (pv 1)) (dQ (i:=3) zC.nd rfl (Or.inl rfl)) (aE (rC (cD T.mak O2 hr (by rfl) T.at_ T.bd .nil aR (a9 (aJ (aK aL (pv 0) (pv 3) (λ_ _=>rfl)) rfl) (a9 aF (a9 (aJ (aK aL (pv 0) (pv 3) (λ_ _=>rfl)) rfl) aC)))) (rA (pv 2) (pv 3) j8))))
   (aE (aP (pv 2)))),?_⟩
  refine ⟨λσ' H'=>∃ t,σ'=[some (.ref wl),some (.ref kl),some (.ref t),none]/\H'=upd H t (.lst (as.map V.ref))/\H t=none,?_,?_⟩
  ·exact ⟨_,rfl,wl,_,rfl,.inl (SqL.of hw),λt nt=>⟨t,rfl,rfl,nt⟩⟩
  ·rintro σ1 H1 ⟨t,rfl,rfl,nt⟩;have k0:aH [] H (upd H t (.lst (as.map V.ref))):=aH.laid nt;refine ⟨λσ' H'=>(∃ o,σ'=[some (.ref wl),some (.ref kl),some (.ref t),o])/\i7 CW H' t (gR ws ks)/\aH [] H H',?_,?_⟩
   ·refine ⟨_,rfl,kl,rfl,⟨_,k0.seq (by simp) hk⟩,oY (K:=K) (a:=kl) (xs:=ks.map λk=>V.int (k:Nat)) (λi σ' H'=>(∃ o,σ'=[some (.ref wl),some (.ref kl),some (.ref t),o])/\i7 CW H' t (gR ws (ks.take i))/\aH [] H H')
     ⟨⟨_,rfl⟩,⟨as,aA,Paired.mapP hp λ_ _ z=>z.keep k0⟩,k0⟩ (λi σ' H' _ z=>z.2.2.seq (by simp) hk) ?_ ?_⟩
    ·rintro i x σ' H' hx ⟨⟨o,rfl⟩,⟨bs,z1,z2⟩,z3⟩;rw[List.getElem?_map] at hx
     cases e:ks[i]? with
     | none=>rw[e] at hx;cases hx
     | some k=>
      rw[e] at hx;cases hx;have hkl:=hlt k (List.mem_of_getElem? e);have gk:ws[k]?=some (ws.getD k rw0):=by rw[List.getD,List.getElem?_eq_getElem hkl];rfl
      obtain ⟨x,hx,dx,hox⟩:=TC.bM hp gk;have hx':(as.map V.ref)[k]?=some (V.ref x):=by rw[List.getElem?_map,hx];rfl
      have hw':=z3 _ _ hw (by simp);have ho':=z3 _ _ hox (by simp)
      have kl2:(gR ws (ks.take i)).length=ws.length:=by
       unfold gR;generalize ks.take i=l
       suffices ∀ (l:List Nat) (r:List RW),(l.foldl (λr k=>r.set k (bW (ws.getD k rw0))) r).length=r.length from this l ws
       intro l
       induction l with
       | nil=>exact λ_=>rfl
       | cons a l ih=>exact λr=>(ih _).trans (List.length_set ..)
      have tk:gR ws (ks.take (i+1))=(gR ws (ks.take i)).set k (bW (ws.getD k rw0)):=by
       unfold gR;rw[List.take_succ,e,List.foldl_append];rfl
      refine ⟨_,rfl,_,rfl,wl,_,_,_,rfl,rfl,SqL.of hw',aX hx',x,CW,dx,_,_,rfl,ho',T.cl,T.nY,A7 _ _ _,?_⟩;refine ⟨_,rfl,_,rfl,wl,_,_,_,rfl,rfl,SqL.of hw',aX hx',x,CW,dx,_,_,rfl,ho',T.cl,T.nB,vS _ _ _,?_⟩;intro y dy ny nd _;refine ⟨y,dy,_,_,_,rfl,aA,λH4 e4 kp=>⟨rfl,?_⟩⟩;have k4:=uE ny nd kp
      have hy:kR CW H4 y (bW (ws.getD k rw0)):=⟨dy,e4⟩
      have z1':=k4 _ _ z1 (by simp);refine ⟨_,rfl,_,rfl,t,_,_,k,rfl,rfl,z1',pD (by rw[List.length_map,bB z2,kl2];exact hkl),⟨_,rfl⟩,⟨bs.set k y,by rw[aA,List.map_set],?_⟩,(z3.trans k4).upd0 nt⟩;rw[tk];exact jU (Paired.mapP z2 λ_ _ z=>(z.keep k4).lst z1') (hy.lst z1')
    ·rintro σ' H' ⟨z1,z2,z3⟩;rw[List.length_map,List.take_length] at z2;exact ⟨z1,z2,z3⟩
   ·rintro σ2 H2 ⟨⟨o,rfl⟩,z2,z3⟩;exact ⟨_,rfl,q t H2 z2 nt z3⟩
abbrev lM:Stmt:=top 90
abbrev gZ:Stmt:=top 91
abbrev lP:Stmt:=top 92
theorem itF {c:Prop}[Decidable c]{p q:Prop}(h:¬ c)(hq:q):if c then p else q:=by rw[if_neg h];exact hq
theorem itT {c:Prop}[Decidable c]{p q:Prop}(h:c)(hp:p):if c then p else q:=by rw[if_pos h];exact hp
def gS (p:NN):HO:=.tup [.int (p.1:Nat),.int (p.2:Nat)]
def cU (H:Hp)(vl:Addr)(vals:List NN):Prop:=∃ as:List Addr,H vl=some (.lst (as.map V.ref))/\Paired (λa p=>H a=some (gS p)) as vals
theorem cU.keep {vl:Addr}{H H':Hp}{vals:List NN}(h:cU H vl vals)(k:aH [] H H'):cU H' vl vals:=by
 obtain ⟨as,e,p⟩:=h;exact ⟨as,k _ _ e (by simp),Paired.mapP p λ_ _ z=>k _ _ z (by simp)⟩
theorem cU.get {vl:Addr}{H:Hp}{vals:List NN}(h:cU H vl vals){i:Nat}(hi:i<vals.length):∃ as:List Addr,H vl=some (.lst (as.map V.ref))/\∃ x,(as.map V.ref)[i]?=some (V.ref x)/\H x=some (gS (vals.getD i (0,1))):=by
 obtain ⟨as,e,p⟩:=h;obtain ⟨x,h1,h2⟩:=TC.bM p (show vals[i]?=some (vals.getD i (0,1)) by rw[List.getD,List.getElem?_eq_getElem hi];rfl);exact ⟨as,e,x,by rw[List.getElem?_map,h1];rfl,h2⟩
theorem i7.get {CW wl:Addr}{H:Hp}{ws:List RW}(h:i7 CW H wl ws){i:Nat}(hi:i<ws.length):∃ as:List Addr,H wl=some (.lst (as.map V.ref))/\∃ x dx,(as.map V.ref)[i]?=some (V.ref x)/\H x=some (.ins CW dx (wtF ((ws.getD i rw0).y:Nat) ((ws.getD i rw0).n:Nat) ((ws.getD i rw0).b:Nat))):=by
 obtain ⟨as,e,p⟩:=h;obtain ⟨x,h1,dx,h2⟩:=TC.bM p (show ws[i]?=some (ws.getD i rw0) by rw[List.getD,List.getElem?_eq_getElem hi];rfl);exact ⟨as,e,x,dx,by rw[List.getElem?_map,h1];rfl,h2⟩
def V2 (ws:List RW)(vals:List NN):CNode->Prop
 | .const f=>f=Frac.zero∨f=Frac.one
 | .yes v=>v<ws.length
 | .no v=>v<ws.length
 | .add a b=>a<vals.length/\b<vals.length
 | .mul a b=>a<vals.length/\b<vals.length/\(vals.getD a (0,1)).1<2^9000/\(vals.getD a (0,1)).2<2^9000/\(vals.getD b (0,1)).1<2^9000/\(vals.getD b (0,1)).2<2^9000
structure tG (mg:Str->Option Value):Prop where
 num:GI mg "NUMBER_circuits" 0
 yes:GI mg "YES" 1
 no:GI mg "NO" 2
 sum:GI mg "SUM" 3
 prod:GI mg "PRODUCT" 4
inductive rP (K:PySem.W.Frag) (CW:Addr) (us:List V) (H:Hp) (Q:VK) (E:XK):Prop
 | mk:∀ (a el wl:Addr) (x:CNode) (vals:List NN) (ws:List RW),us=[.ref a,.ref el,.ref wl]->eO K H a (cR x)->cU H el vals->i7 CW H wl ws->V2 ws vals x->(∀ t,H t=none->Q (.ref t) (upd H t (gS (pR ws vals x))))->rP K CW us H Q E
theorem rJ:aO ["node","earlier","weights","first","second"] ["node","earlier","weights"] (aI lM):=by walk_at "s"
theorem DX {CW f fW:Addr}{fd wd:FuncData}(N:tG mg)(T:eU K mg CW fW wd)(F:Def K mg "node_value" lM ["node","earlier","weights"] f fd):aN P w K mg base CX0 1 f fd ["node","earlier","weights"] (rP K CW):=by
 refine F.fn.ok rJ (λus H Q E h=>?_) (λcdv A outer s H us Q E hr h=>?_)
 ·walk_at "l"
 ·obtain ⟨a,el,wl,x,vals,ws,rfl,ha,hv,hw,hok,q⟩:=h
  refine ⟨_,aG (bC (aT bV (aK aW (pv 0) aF (λ_ _=>rfl)) (pgi N.num) (aY _)) (aE (aP (cA (a9 (aK aW (pv 0) aF (λ_ _=>rfl)) (a9 (aK aW (pv 0) aF (λ_ _=>rfl)) aC))))) aV)
   (aG (bC (aT bV (aK aW (pv 0) aF (λ_ _=>rfl)) (pgi N.yes) (aY _)) (aE (aP (cA (a9 (aJ (aK aL (pv 2) (aK aW (pv 0) aF (λ_ _=>rfl)) (λ_ _=>rfl)) rfl) (a9 (aJ (aK aL (pv 2) (aK aW (pv 0) aF (λ_ _=>rfl)) (λ_ _=>rfl)) rfl) aC))))) aV)
   (aG (bC (aT bV (aK aW (pv 0) aF (λ_ _=>rfl)) (pgi N.no) (aY _)) (aE (aP (cA (a9 (aJ (aK aL (pv 2) (aK aW (pv 0) aF (λ_ _=>rfl)) (λ_ _=>rfl)) rfl) (a9 (aJ (aK aL (pv 2) (aK aW (pv 0) aF (λ_ _=>rfl)) (λ_ _=>rfl)) rfl) aC))))) aV)
   (aG (aQ (i:=3) rJ.nd rfl (Or.inl rfl) (aK aL (pv 1) (aK aW (pv 0) aF (λ_ _=>rfl)) (λ_ _=>rfl)))
   (aG (aQ (i:=4) rJ.nd rfl (Or.inl rfl) (aK aL (pv 1) (aK aW (pv 0) aF (λ_ _=>rfl)) (λ_ _=>rfl)))
   (aG (bC (aT bV (aK aW (pv 0) aF (λ_ _=>rfl)) (pgi N.sum) (aY _)) (aE (aP (cA (a9 (b7 dJ (aK aW (pv 3) aF (λ_ _=>rfl)) (aK aW (pv 4) aF (λ_ _=>rfl))) (a9 (aK aW (pv 3) aF (λ_ _=>rfl)) aC))))) aV)
   (aE (aP (cA (a9 (b7 dY (aK aW (pv 3) aF (λ_ _=>rfl)) (aK aW (pv 4) aF (λ_ _=>rfl))) (a9 (b7 dY (aK aW (pv 3) aF (λ_ _=>rfl)) (aK aW (pv 4) aF (λ_ _=>rfl))) aC)))))))))),?_⟩
  cases x with
  | const f=>
   refine ⟨_,rfl,a,_,0,_,rfl,rfl,ha.sq,rfl,rfl,_,rfl,itT (by decide) ?_⟩;refine ⟨_,rfl,a,_,1,_,rfl,rfl,ha.sq,rfl,_,rfl,a,_,2,_,rfl,rfl,ha.sq,rfl,by show 2<=sizeLine;decide,λt ht=>?_⟩
   have:=q t ht
   rcases hok with e|e
   ·subst e;exact this
   ·subst e;exact this
  | yes v=>
   obtain ⟨as,hl,y,dy,hy,hoy⟩:=hw.get hok;refine ⟨_,rfl,a,_,0,_,rfl,rfl,ha.sq,rfl,rfl,_,rfl,itF (by decide) ?_⟩;refine ⟨_,rfl,a,_,0,_,rfl,rfl,ha.sq,rfl,rfl,_,rfl,itT (by decide) ?_⟩;refine ⟨_,rfl,_,rfl,a,_,1,_,rfl,rfl,ha.sq,rfl,wl,_,(v:Nat),_,rfl,rfl,SqL.of hl,aX hy,y,CW,dy,_,_,rfl,hoy,T.cl,T.nY,A7 _ _ _,?_⟩;refine ⟨_,rfl,_,rfl,a,_,1,_,rfl,rfl,ha.sq,rfl,wl,_,(v:Nat),_,rfl,rfl,SqL.of hl,aX hy,y,CW,dy,_,_,rfl,hoy,T.cl,T.nB,vS _ _ _,?_⟩;exact ⟨by show 2<=sizeLine;decide,λt ht=>q t ht⟩
  | no v=>
   obtain ⟨as,hl,y,dy,hy,hoy⟩:=hw.get hok;refine ⟨_,rfl,a,_,0,_,rfl,rfl,ha.sq,rfl,rfl,_,rfl,itF (by decide) ?_⟩;refine ⟨_,rfl,a,_,0,_,rfl,rfl,ha.sq,rfl,rfl,_,rfl,itF (by decide) ?_⟩;refine ⟨_,rfl,a,_,0,_,rfl,rfl,ha.sq,rfl,rfl,_,rfl,itT (by decide) ?_⟩;refine ⟨_,rfl,_,rfl,a,_,1,_,rfl,rfl,ha.sq,rfl,wl,_,(v:Nat),_,rfl,rfl,SqL.of hl,aX hy,y,CW,dy,_,_,rfl,hoy,T.cl,T.nN,S3 _ _ _,?_⟩;refine ⟨_,rfl,_,rfl,a,_,1,_,rfl,rfl,ha.sq,rfl,wl,_,(v:Nat),_,rfl,rfl,SqL.of hl,aX hy,y,CW,dy,_,_,rfl,hoy,T.cl,T.nB,vS _ _ _,?_⟩;exact ⟨by show 2<=sizeLine;decide,λt ht=>q t ht⟩
  | add i j=>
   obtain ⟨as,hl,y,hy,hoy⟩:=hv.get hok.1;obtain ⟨bs,hl2,z,hz,hoz⟩:=hv.get hok.2;refine ⟨_,rfl,a,_,0,_,rfl,rfl,ha.sq,rfl,rfl,_,rfl,itF (by decide) ?_⟩;refine ⟨_,rfl,a,_,0,_,rfl,rfl,ha.sq,rfl,rfl,_,rfl,itF (by decide) ?_⟩;refine ⟨_,rfl,a,_,0,_,rfl,rfl,ha.sq,rfl,rfl,_,rfl,itF (by decide) ?_⟩;refine ⟨_,rfl,_,rfl,a,_,1,_,rfl,rfl,ha.sq,rfl,el,_,(i:Nat),_,rfl,rfl,SqL.of hl,aX hy,?_⟩;refine ⟨_,rfl,_,rfl,a,_,2,_,rfl,rfl,ha.sq,rfl,el,_,(j:Nat),_,rfl,rfl,SqL.of hl2,aX hz,?_⟩;refine ⟨_,rfl,a,_,0,_,rfl,rfl,ha.sq,rfl,rfl,_,rfl,itT (by decide) ?_⟩;refine ⟨_,rfl,y,_,0,_,rfl,rfl,SqT.of hoy,rfl,_,rfl,z,_,0,_,rfl,rfl,SqT.of hoz,rfl,_,_,rfl,rfl,?_⟩;refine ⟨_,rfl,y,_,1,_,rfl,rfl,SqT.of hoy,rfl,by show 2<=sizeLine;decide,λt ht=>?_⟩
   have:=q t ht
   unfold gS pR at this;rw[Int.natCast_add] at this;exact this
  | mul i j=>
   obtain ⟨h1,h2,l1,l2,l3,l4⟩:=hok;obtain ⟨as,hl,y,hy,hoy⟩:=hv.get h1;obtain ⟨bs,hl2,z,hz,hoz⟩:=hv.get h2;refine ⟨_,rfl,a,_,0,_,rfl,rfl,ha.sq,rfl,rfl,_,rfl,itF (by decide) ?_⟩;refine ⟨_,rfl,a,_,0,_,rfl,rfl,ha.sq,rfl,rfl,_,rfl,itF (by decide) ?_⟩;refine ⟨_,rfl,a,_,0,_,rfl,rfl,ha.sq,rfl,rfl,_,rfl,itF (by decide) ?_⟩;refine ⟨_,rfl,_,rfl,a,_,1,_,rfl,rfl,ha.sq,rfl,el,_,(i:Nat),_,rfl,rfl,SqL.of hl,aX hy,?_⟩;refine ⟨_,rfl,_,rfl,a,_,2,_,rfl,rfl,ha.sq,rfl,el,_,(j:Nat),_,rfl,rfl,SqL.of hl2,aX hz,?_⟩;refine ⟨_,rfl,a,_,0,_,rfl,rfl,ha.sq,rfl,rfl,_,rfl,itF (by decide) ?_⟩;refine ⟨_,rfl,y,_,0,_,rfl,rfl,SqT.of hoy,rfl,_,rfl,z,_,0,_,rfl,rfl,SqT.of hoz,rfl,_,_,rfl,rfl,⟨bL l1 (Nat.le_refl _),bL l3 (Nat.le_refl _)⟩,?_⟩;refine ⟨_,rfl,y,_,1,_,rfl,rfl,SqT.of hoy,rfl,_,rfl,z,_,1,_,rfl,rfl,SqT.of hoz,rfl,_,_,rfl,rfl,⟨bL l2 (Nat.le_refl _),bL l4 (Nat.le_refl _)⟩,by show 2<=sizeLine;decide,λt ht=>?_⟩
   have:=q t ht
   unfold gS pR at this;rw[Int.natCast_mul,Int.natCast_mul] at this;exact this
structure Ask (K:PySem.W.Frag)(CC CW:Addr)(H:Hp)(a nl wl:Addr)(m:Vaprbi.Made)(ws:List RW)(n:Nat):Prop where
 ci:tE K CC H a nl m.nodes m.root
 ws_:i7 CW H wl ws
 hn:ws.length=n
 h12:n<=12
 hw:WBs ws
 ok:MOk n m
theorem tE.keep {K:PySem.W.Frag}{CC a nl:Addr}{H H':Hp}{c:Circuit}{r:Nat}(h:tE K CC H a nl c r)(k:aH [] H H'):tE K CC H' a nl c r:=by
 obtain ⟨⟨dx,e⟩,as,h1,h2⟩:=h;exact ⟨⟨dx,k _ _ e (by simp)⟩,as,k _ _ h1 (by simp),Paired.mapP h2 λ_ _ z=>z.keep0 k⟩
theorem Ask.keep {K:PySem.W.Frag}{CC CW a nl wl:Addr}{H H':Hp}{m:Vaprbi.Made}{ws:List RW}{n:Nat}(h:Ask K CC CW H a nl wl m ws n)(k:aH [] H H'):Ask K CC CW H' a nl wl m ws n:=
 ⟨h.ci.keep k,h.ws_.keep k,h.hn,h.h12,h.hw,h.ok⟩
theorem BW {α β:Type}(f:List β->α->β){c:List α}{i:Nat}{x:α}(h:c[i]?=some x):run f (c.take (i+1))=run f (c.take i)++[f (run f (c.take i)) x]:=by
 rw[List.take_succ,h];exact lG f _ x
theorem HB {ws:List RW}{c:Circuit}{i j:Nat}(h:j<i):(run (pR ws) (c.take i)).getD j (0,1)=rv ws c j:=by
 rw[(iZ (pR ws) c i).1];exact cP h
theorem cC {n k:Nat}(h:n<2^k)(hk:k<=9000):n<2^9000:=Nat.lt_of_lt_of_le h (Nat.pow_le_pow_right (by decide) hk)
theorem VU {n:Nat}{ws:List RW}{c:Circuit}(hn:ws.length=n)(h12:n<=12)(hw:WBs ws)(w:Wf n c)(hc:c.length<=2000){i:Nat}{x:CNode}(h:c[i]?=some x):V2 ws (run (pR ws) (c.take i)) x:=by
 have hi:=(List.getElem?_eq_some_iff.mp h).1;have k:=w i x h;have len:(run (pR ws) (c.take i)).length=i:=by rw[eM,List.length_take];lia
 cases x with
 | const f=>exact k
 | yes v=>exact show v<ws.length from hn▸k
 | no v=>exact show v<ws.length from hn▸k
 | add a b=>exact ⟨by rw[len];exact k.1,by rw[len];exact k.2.1⟩
 | mul a b=>
  obtain ⟨ha,hb,_⟩:=k;refine ⟨by rw[len];exact ha,by rw[len];exact hb,?_⟩;rw[HB ha,HB hb];exact ⟨cC (rF hn h12 hw w hc (by lia)) (by decide),cC (rE hn h12 hw w hc (by lia)) (by decide),cC (rF hn h12 hw w hc (by lia)) (by decide),cC (rE hn h12 hw w hc (by lia)) (by decide)⟩
theorem cU.lst {t D:Addr}{H:Hp}{p:NN}{xs ys:List V}(h:H t=some (gS p))(hD:H D=some (.lst xs)):upd H D (.lst ys) t=some (gS p):=by
 rw[aB (bI h hD (by intro z;cases z))];exact h
inductive eP (K:PySem.W.Frag) (CC CW:Addr) (us:List V) (H:Hp) (Q:VK) (E:XK):Prop
 | mk:∀ (a nl wl:Addr) (m:Vaprbi.Made) (ws:List RW) (n:Nat),us=[.ref a,.ref wl]->Ask K CC CW H a nl wl m ws n->(∀ (t:Addr) (H':Hp),cU H' t (dX ws m.nodes)->H t=none->aH [] H H'->Q (.ref t) H')->eP K CC CW us H Q E
theorem o8:aO ["circuit","weights","found","node"] ["circuit","weights"] (aI gZ):=by walk_at "s"
structure OJ (K:PySem.W.Frag)(mg:Str->Option Value)(CC CW:Addr):Prop where
 ki:tG mg
 cm:rY K mg CC
 wc:∃ f fd,eU K mg CW f fd
 nv:∃ f fd,Def K mg "node_value" lM ["node","earlier","weights"] f fd
theorem fZ {CC CW f:Addr}{fd:FuncData}(N:OJ K mg CC CW)(F:Def K mg "values_of" gZ ["circuit","weights"] f fd):aN P w K mg base CX0 2 f fd ["circuit","weights"] (eP K CC CW):=by
 obtain ⟨g1,d1,G1⟩:=N.nv;obtain ⟨g2,d2,G2⟩:=N.wc;have O1:aN P w K mg base CX0 1 g1 d1 ["node","earlier","weights"] (rP K CW):=DX N.ki G2 G1;refine F.fn.ok o8 (λus H Q E h=>?_) (λcdv A outer s H us Q E hr h=>?_)
 ·walk_at "l"
 ·obtain ⟨a,nl,wl,m,ws,n,rfl,hA,q⟩:=h;obtain ⟨dx,ho⟩:=hA.ci.ob;obtain ⟨as,hl,hp⟩:=hA.ci.nds;have hlen:as.length=m.nodes.length:=bB hp;have h2:=hA.ok.len
  refine ⟨_,aM (aQ (i:=2) o8.nd rfl (Or.inl rfl) (bD aC))
   (aM (jX PassesOwn.never rfl (jV (aJ (pv 0) rfl)) (dQ (i:=3) o8.nd rfl (Or.inl rfl)) (aE (bE (iB PySem.F.plainAttrs_list PySem.F.slot_list_append PySem.F.type_list_append dG (pv 2) (a9 (aS O1 hr (by rfl) G1.at_ G1.fn.kp G1.bd .nil aR (a9 (pv 3) (a9 (pv 2) (a9 (pv 1) aC)))) aC)))))
   (aE (aP (pv 2)))),?_⟩
  refine ⟨λσ' H'=>∃ t,σ'=[some (.ref a),some (.ref wl),some (.ref t),none]/\H'=upd H t (.lst [])/\H t=none,?_,?_⟩
  ·exact ⟨by show 0<=sizeLine;decide,λt nt=>⟨t,rfl,rfl,nt⟩⟩
  ·rintro σ1 H1 ⟨t,rfl,rfl,nt⟩;have k0:aH [] H (upd H t (.lst [])):=aH.laid nt;refine ⟨λσ' H'=>(∃ o,σ'=[some (.ref a),some (.ref wl),some (.ref t),o])/\cU H' t (dX ws m.nodes)/\aH [] H H',?_,?_⟩
   ·refine ⟨_,rfl,a,CC,dx,_,_,rfl,k0 _ _ ho (by simp),N.cm.cl,N.cm.nN,eB _ _,nl,rfl,⟨_,SqL.of (k0 _ _ hl (by simp))⟩,oY (K:=K) (a:=nl) (xs:=as.map V.ref) (λi σ' H'=>(∃ o,σ'=[some (.ref a),some (.ref wl),some (.ref t),o])/\cU H' t (run (pR ws) (m.nodes.take i))/\aH [] H H')
     ⟨⟨_,rfl⟩,⟨[],aA,.nil⟩,k0⟩ (λi σ' H' _ z=>SqL.of (z.2.2 _ _ hl (by simp))) ?_ ?_⟩
    ·rintro i y σ' H' hy ⟨⟨o,rfl⟩,hv,z3⟩;obtain ⟨x,nd,rfl,hx,hcn,hk⟩:=yX hp hy;have hi:=(List.getElem?_eq_some_iff.mp hcn).1;obtain ⟨bs,z1,z2⟩:=id hv;refine ⟨_,rfl,.inl ⟨rfl,_,SqL.of z1⟩,_,rfl,_,rfl,_,rfl,x,t,wl,nd,_,ws,rfl,hk.keep0 z3,hv,hA.ws_.keep z3,VU hA.hn hA.h12 hA.hw hA.ok.wf h2 hcn,λy ny=>?_⟩;have z1':upd H' y (gS (pR ws (run (pR ws) (m.nodes.take i)) nd)) t=some (.lst (bs.map V.ref)):=(aH.laid (S:=[]) ny) _ _ z1 (by simp);have bl:bs.length=i:=by rw[bB z2,eM,List.length_take];lia
     refine ⟨t,_,_,rfl,rfl,z1',by rw[List.length_map,bl];exact Nat.lt_of_lt_of_le hi (Nat.le_trans h2 (show 2000<=sizeLine by decide)),⟨_,rfl⟩,⟨bs++[y],by rw[aA,List.map_append];rfl,?_⟩,((z3.trans (aH.laid ny)).upd0 nt)⟩;rw[BW (pR ws) hcn];exact (Paired.mapP z2 λ_ _ z=>cU.lst ((aH.laid (S:=[]) ny) _ _ z (by simp)) z1').snoc (cU.lst aA z1')
    ·rintro σ' H' ⟨z1,z2,z3⟩;rw[List.length_map,hlen,List.take_length] at z2;exact ⟨z1,z2,z3⟩
   ·rintro σ2 H2 ⟨⟨o,rfl⟩,z2,z3⟩;exact ⟨_,rfl,q t H2 z2 nt z3⟩
inductive jB (K:PySem.W.Frag) (CC CW:Addr) (us:List V) (H:Hp) (Q:VK) (E:XK):Prop
 | mk:∀ (a nl wl:Addr) (m:Vaprbi.Made) (ws:List RW) (n:Nat),us=[.ref a,.ref wl]->Ask K CC CW H a nl wl m ws n->(∀ (t:Addr) (H':Hp),H' t=some (gS (rv ws m.nodes m.root))->aH [] H H'->Q (.ref t) H')->jB K CC CW us H Q E
theorem JS:aO ["circuit","weights"] ["circuit","weights"] (aI lP):=by walk_at "s"
theorem nJ {CC CW f g:Addr}{fd gd:FuncData}(N:OJ K mg CC CW)(G:Def K mg "values_of" gZ ["circuit","weights"] g gd)(F:Def K mg "whole_of" lP ["circuit","weights"] f fd):aN P w K mg base CX0 3 f fd ["circuit","weights"] (jB K CC CW):=by
 have O1:aN P w K mg base CX0 2 g gd ["circuit","weights"] (eP K CC CW):=fZ N G;refine F.fn.ok JS (λus H Q E h=>?_) (λcdv A outer s H us Q E hr h=>?_)
 ·walk_at "l"
 ·obtain ⟨a,nl,wl,m,ws,n,rfl,hA,q⟩:=h;refine ⟨_,aE (aP (aK aL (aS O1 hr (by rfl) G.at_ G.fn.kp G.bd .nil aR (a9 (pv 0) (a9 (pv 1) aC))) (aJ (pv 0) rfl) (λ_ _=>rfl))),?_⟩;refine ⟨_,rfl,_,rfl,a,nl,wl,m,ws,n,rfl,hA,λt H' hv _ k=>?_⟩;obtain ⟨dx,ho⟩:=(hA.ci.keep k).ob;have len:(dX ws m.nodes).length=m.nodes.length:=eM _ _;obtain ⟨as,hl,x,hx,hox⟩:=hv.get (i:=m.root) (by rw[len];exact hA.ok.root);exact ⟨_,rfl,a,CC,dx,_,_,rfl,ho,N.cm.cl,N.cm.nR,oU _ _,t,_,_,_,rfl,rfl,SqL.of hl,aX hx,q x H' hox k⟩
abbrev EB:Stmt:=eW (top 69) 0
abbrev lK:Stmt:=top 70
abbrev uX:Stmt:=top 71
abbrev j3:Stmt:=top 72
def grF (t b w:Int):List (Str×V):=[("top",.int t),("bottom",.int b),("ways",.int w)]
theorem jP (t b w:Int):(grF t b w).lookup ("top" : Str)=some (.int t):=rfl
theorem yA (t b w:Int):(grF t b w).lookup ("bottom" : Str)=some (.int b):=by with_unfolding_all rfl
theorem pC (t b w:Int):(grF t b w).lookup ("ways" : Str)=some (.int w):=by with_unfolding_all rfl
def oK (CG:Addr)(H:Hp)(a:Addr)(g:Gr):Prop:=∃ dx,H a=some (.ins CG dx (grF (g.1:Nat) (g.2.1:Nat) (g.2.2:Nat)))
def KB (CG:Addr)(H:Hp)(l:Addr)(gs:List Gr):Prop:=∃ as:List Addr,H l=some (.lst (as.map V.ref))/\Paired (oK CG H) as gs
theorem oK.keep {CG a:Addr}{H H':Hp}{g:Gr}(h:oK CG H a g)(k:aH [] H H'):oK CG H' a g:=by
 obtain ⟨dx,e⟩:=h;exact ⟨dx,k _ _ e (by simp)⟩
theorem oK.lst {CG a D:Addr}{H:Hp}{g:Gr}{xs ys:List V}(h:oK CG H a g)(hD:H D=some (.lst xs)):oK CG (upd H D (.lst ys)) a g:=by
 obtain ⟨dx,e⟩:=h;exact ⟨dx,by rw[aB (bI e hD (by intro z;cases z))];exact e⟩
theorem KB.get {CG l:Addr}{H:Hp}{gs:List Gr}(h:KB CG H l gs){i:Nat}(hi:i<gs.length):∃ as:List Addr,H l=some (.lst (as.map V.ref))/\∃ x,(as.map V.ref)[i]?=some (V.ref x)/\oK CG H x (gs.getD i gr0):=by
 obtain ⟨as,e,p⟩:=h;obtain ⟨x,h1,h2⟩:=TC.bM p (show gs[i]?=some (gs.getD i gr0) by rw[List.getD,List.getElem?_eq_getElem hi];rfl);exact ⟨as,e,x,by rw[List.getElem?_map,h1];rfl,h2⟩
structure xR (K:PySem.W.Frag)(mg:Str->Option Value)(CG f:Addr)(fd:FuncData):Prop where
 cl:Cls K CG
 mak:Mk K CG f
 nT:aZ K CG "top"
 nB:aZ K CG "bottom"
 nW:aZ K CG "ways"
 at_:mg "Greatest" = some (.ref CG)
 fn:Fun K "__init__" "Greatest.__init__" EB f fd
 bd:cZ K fd ["self","top","bottom","ways"] []
inductive q5 (CG:Addr) (us:List V) (H:Hp) (Q:VK) (E:XK):Prop
 | mk:∀ (a dx:Addr) (y n b:Int),us=[.ref a,.int y,.int n,.int b]->H a=some (.ins CG dx [])->(∀ H':Hp,H' a=some (.ins CG dx (grF y n b))->aH [a] H H'->Q .non H')->q5 CG us H Q E
theorem QH:aO ["self","top","bottom","ways"] ["self","top","bottom","ways"] (aI EB):=by walk_at "s"
theorem BD {CG f:Addr}{fd:FuncData}(T:xR K mg CG f fd):aN P w K mg base CX0 1 f fd ["self","top","bottom","ways"] (q5 CG):=by
 refine T.fn.ok QH (λus H Q E h=>?_) (λcdv A outer s H us Q E hr h=>?_)
 ·walk_at "l"
 ·obtain ⟨a,dx,y,n,b,rfl,ha,q⟩:=h;refine ⟨_,aG (bY (pv 0) (pv 1) rfl) (aG (bY (pv 0) (pv 2) rfl) (aE (bY (pv 0) (pv 3) rfl))),?_⟩;refine ⟨_,rfl,_,rfl,a,CG,dx,_,rfl,ha,T.cl,T.nT,by show 0<1000;decide,?_⟩;refine ⟨_,rfl,_,rfl,a,CG,dx,_,rfl,aA,T.cl,T.nB,by show 1<1000;decide,?_⟩;refine ⟨_,rfl,_,rfl,a,CG,dx,_,rfl,aA,T.cl,T.nW,by show 2<1000;decide,?_⟩;refine q _ (Eq.trans aA (congrArg (λz=>some (HO.ins CG dx z)) (by with_unfolding_all rfl))) λb o z nb=>?_;have nb':b≠a:=by simpa using nb
  rw[aB nb',aB nb',aB nb'];exact z
theorem m7 {CG:Addr}{H:Hp}{Q:VK}{y n b:Int}(r:Gr)(e1:y=(r.1:Nat))(e2:n=(r.2.1:Nat))(e3:b=(r.2.2:Nat))(q:∀ (t:Addr) (H':Hp),oK CG H' t r->aH [] H H'->Q (.ref t) H'):
  ∀ x dx:Addr,H x=none->H dx=none->dx≠x->q5 CG [.ref x,.int y,.int n,.int b] (upd (upd H dx (.own x)) x (.ins CG dx [])) (λv H2=>v=.non/\Q (.ref x) H2) E0:=
 λx dx hx hd ne=>⟨x,dx,y,n,b,rfl,aA,λH' to kp=>⟨rfl,q x H' ⟨dx,by rw[to,e1,e2,e3]⟩ (uE hx hd kp)⟩⟩
inductive rO (CG:Addr) (us:List V) (H:Hp) (Q:VK) (E:XK):Prop
 | mk:∀ (a b:Addr) (x y:Gr),us=[.ref a,.ref b]->oK CG H a x->oK CG H b y->(∀ (t:Addr) (H':Hp),oK CG H' t (pA x y)->aH [] H H'->Q (.ref t) H')->rO CG us H Q E
theorem JQ:aO ["first","second"] ["first","second"] (aI lK):=by walk_at "s"
theorem DV {CG f fG:Addr}{fd gd:FuncData}(T:xR K mg CG fG gd)(F:Def K mg "greater_of" lK ["first","second"] f fd):aN P w K mg base CX0 3 f fd ["first","second"] (rO CG):=by
 have O2:aN P w K mg base CX0 1 fG gd ["self","top","bottom","ways"] (q5 CG):=BD T;refine F.fn.ok JQ (λus H Q E h=>?_) (λcdv A outer s H us Q E hr h=>?_)
 ·walk_at "l"
 ·obtain ⟨a,b,x,y,rfl,hx,hy,q⟩:=h;obtain ⟨dx,ha⟩:=id hx;obtain ⟨dy,hb⟩:=id hy
  refine ⟨_,aG (bC (aT sH (aJ (pv 0) rfl) (aJ (pv 1) rfl) (aY _)) (aE (aP (pv 0))) aV)
   (aG (bC (aT eZ (aJ (pv 0) rfl) (aJ (pv 1) rfl) (aY _)) (aE (aP (pv 1))) aV)
   (aE (aP (cD T.mak O2 hr (by rfl) T.at_ T.bd .nil aR (a9 (aJ (pv 0) rfl) (a9 (aJ (pv 0) rfl) (a9 (b7 dJ (aJ (pv 0) rfl) (aJ (pv 1) rfl)) aC))))))),?_⟩
  have ra:∀ {f:Str} {v:V},(grF (x.1:Nat) (x.2.1:Nat) (x.2.2:Nat)).lookup f=some v->True:=λ_=>trivial;refine ⟨_,rfl,a,CG,dx,_,_,rfl,ha,T.cl,T.nT,jP _ _ _,_,rfl,b,CG,dy,_,_,rfl,hb,T.cl,T.nT,jP _ _ _,_,_,rfl,rfl,_,rfl,?_⟩;unfold pA at q
  by_cases c1:y.1<x.1
  ·rw[if_pos c1] at q;exact itT (decide_eq_true (by lia)) ⟨_,rfl,q a H hx aH.refl⟩
  ·rw[if_neg c1] at q;refine itF (by simp only[decide_eq_true_eq];lia) ?_;refine ⟨_,rfl,a,CG,dx,_,_,rfl,ha,T.cl,T.nT,jP _ _ _,_,rfl,b,CG,dy,_,_,rfl,hb,T.cl,T.nT,jP _ _ _,_,_,rfl,rfl,_,rfl,?_⟩
   by_cases c2:x.1<y.1
   ·rw[if_pos c2] at q;exact itT (decide_eq_true (by lia)) ⟨_,rfl,q b H hy aH.refl⟩
   ·rw[if_neg c2] at q;refine itF (by simp only[decide_eq_true_eq];lia) ?_;refine ⟨_,rfl,a,CG,dx,_,_,rfl,ha,T.cl,T.nT,jP _ _ _,_,rfl,a,CG,dx,_,_,rfl,ha,T.cl,T.nB,yA _ _ _,_,rfl,a,CG,dx,_,_,rfl,ha,T.cl,T.nW,pC _ _ _,_,rfl,b,CG,dy,_,_,rfl,hb,T.cl,T.nW,pC _ _ _,_,_,rfl,rfl,?_⟩;exact m7 (x.1,x.2.1,x.2.2+y.2.2) rfl rfl (by show _=((_+_:Nat):Int);rw[Int.natCast_add]) q
def UX (ws:List RW)(gs:List Gr):CNode->Prop
 | .const f=>f=Frac.zero∨f=Frac.one
 | .yes v=>v<ws.length
 | .no v=>v<ws.length
 | .add a b=>a<gs.length/\b<gs.length
 | .mul a b=>a<gs.length/\b<gs.length/\((gs.getD a gr0).1<2^9000/\(gs.getD a gr0).2.1<2^9000/\(gs.getD a gr0).2.2<2^9000)/\((gs.getD b gr0).1<2^9000/\(gs.getD b gr0).2.1<2^9000/\(gs.getD b gr0).2.2<2^9000)
inductive zO (K:PySem.W.Frag) (CW CG:Addr) (us:List V) (H:Hp) (Q:VK) (E:XK):Prop
 | mk:∀ (a el wl:Addr) (x:CNode) (gs:List Gr) (ws:List RW),us=[.ref a,.ref el,.ref wl]->eO K H a (cR x)->KB CG H el gs->i7 CW H wl ws->UX ws gs x->(∀ (t:Addr) (H':Hp),oK CG H' t (mY ws gs x)->aH [] H H'->Q (.ref t) H')->zO K CW CG us H Q E
theorem zB:aO ["node","earlier","weights","first","second"] ["node","earlier","weights"] (aI uX):=by walk_at "s"
structure xS (K:PySem.W.Frag)(mg:Str->Option Value)(CC CW CG:Addr):Prop where
 ki:tG mg
 cm:rY K mg CC
 wc:∃ f fd,eU K mg CW f fd
 gc:∃ f fd,xR K mg CG f fd
 gt:∃ f fd,Def K mg "greater_of" lK ["first","second"] f fd
 gn:∃ f fd,Def K mg "greatest_of_node" uX ["node","earlier","weights"] f fd
theorem M3 {CC CW CG f:Addr}{fd:FuncData}(N:xS K mg CC CW CG)(F:Def K mg "greatest_of_node" uX ["node","earlier","weights"] f fd):aN P w K mg base CX0 4 f fd ["node","earlier","weights"] (zO K CW CG):=by
 obtain ⟨fW,wd,T⟩:=N.wc;obtain ⟨fG,gd,G⟩:=N.gc;obtain ⟨g1,d1,G1⟩:=N.gt;have O2:aN P w K mg base CX0 1 fG gd ["self","top","bottom","ways"] (q5 CG):=BD G;have O1:aN P w K mg base CX0 3 g1 d1 ["first","second"] (rO CG):=DV G G1;refine F.fn.ok zB (λus H Q E h=>?_) (λcdv A outer s H us Q E hr h=>?_)
 ·walk_at "l"
 ·obtain ⟨a,el,wl,x,vals,ws,rfl,ha,hv,hw,hok,q⟩:=h;have hr1:=hr.mono (show 2<=3 by decide)
  refine ⟨_,aG (bC (aT bV (aK aW (pv 0) aF (λ_ _=>rfl)) (pgi N.ki.num) (aY _)) (aE (aP (cD G.mak O2 hr1 (by rfl) G.at_ G.bd .nil aR (a9 (aK aW (pv 0) aF (λ_ _=>rfl)) (a9 (aK aW (pv 0) aF (λ_ _=>rfl)) (a9 (aK aW (pv 0) aF (λ_ _=>rfl)) aC)))))) aV)
   (aG (bC (aT bV (aK aW (pv 0) aF (λ_ _=>rfl)) (pgi N.ki.yes) (aY _)) (aE (aP (cD G.mak O2 hr1 (by rfl) G.at_ G.bd .nil aR (a9 (aJ (aK aL (pv 2) (aK aW (pv 0) aF (λ_ _=>rfl)) (λ_ _=>rfl)) rfl) (a9 (aJ (aK aL (pv 2) (aK aW (pv 0) aF (λ_ _=>rfl)) (λ_ _=>rfl)) rfl) (a9 aF aC)))))) aV)
   (aG (bC (aT bV (aK aW (pv 0) aF (λ_ _=>rfl)) (pgi N.ki.no) (aY _)) (aE (aP (cD G.mak O2 hr1 (by rfl) G.at_ G.bd .nil aR (a9 (aJ (aK aL (pv 2) (aK aW (pv 0) aF (λ_ _=>rfl)) (λ_ _=>rfl)) rfl) (a9 (aJ (aK aL (pv 2) (aK aW (pv 0) aF (λ_ _=>rfl)) (λ_ _=>rfl)) rfl) (a9 aF aC)))))) aV)
   (aG (aQ (i:=3) zB.nd rfl (Or.inl rfl) (aK aL (pv 1) (aK aW (pv 0) aF (λ_ _=>rfl)) (λ_ _=>rfl)))
   (aG (aQ (i:=4) zB.nd rfl (Or.inl rfl) (aK aL (pv 1) (aK aW (pv 0) aF (λ_ _=>rfl)) (λ_ _=>rfl)))
   (aG (bC (aT bV (aK aW (pv 0) aF (λ_ _=>rfl)) (pgi N.ki.sum) (aY _)) (aE (aP (aS O1 hr (by rfl) G1.at_ G1.fn.kp G1.bd .nil aR (a9 (pv 3) (a9 (pv 4) aC))))) aV)
   (aE (aP (cD G.mak O2 hr1 (by rfl) G.at_ G.bd .nil aR (a9 (b7 dY (aJ (pv 3) rfl) (aJ (pv 4) rfl)) (a9 (b7 dY (aJ (pv 3) rfl) (aJ (pv 4) rfl)) (a9 (b7 dY (aJ (pv 3) rfl) (aJ (pv 4) rfl)) aC))))))))))),?_⟩
  cases x with
  | const f=>
   refine ⟨_,rfl,a,_,0,_,rfl,rfl,ha.sq,rfl,rfl,_,rfl,itT (by decide) ?_⟩;refine ⟨_,rfl,a,_,1,_,rfl,rfl,ha.sq,rfl,_,rfl,a,_,2,_,rfl,rfl,ha.sq,rfl,_,rfl,a,_,1,_,rfl,rfl,ha.sq,rfl,?_⟩
   rcases hok with e|e
   ·subst e;exact m7 _ rfl rfl rfl q
   ·subst e;exact m7 _ rfl rfl rfl q
  | yes v=>
   obtain ⟨as,hl,y,dy,hy,hoy⟩:=hw.get hok;refine ⟨_,rfl,a,_,0,_,rfl,rfl,ha.sq,rfl,rfl,_,rfl,itF (by decide) ?_⟩;refine ⟨_,rfl,a,_,0,_,rfl,rfl,ha.sq,rfl,rfl,_,rfl,itT (by decide) ?_⟩;refine ⟨_,rfl,_,rfl,a,_,1,_,rfl,rfl,ha.sq,rfl,wl,_,(v:Nat),_,rfl,rfl,SqL.of hl,aX hy,y,CW,dy,_,_,rfl,hoy,T.cl,T.nY,A7 _ _ _,?_⟩;refine ⟨_,rfl,_,rfl,a,_,1,_,rfl,rfl,ha.sq,rfl,wl,_,(v:Nat),_,rfl,rfl,SqL.of hl,aX hy,y,CW,dy,_,_,rfl,hoy,T.cl,T.nB,vS _ _ _,?_⟩;exact m7 (mY ws vals (.yes v)) rfl rfl rfl q
  | no v=>
   obtain ⟨as,hl,y,dy,hy,hoy⟩:=hw.get hok;refine ⟨_,rfl,a,_,0,_,rfl,rfl,ha.sq,rfl,rfl,_,rfl,itF (by decide) ?_⟩;refine ⟨_,rfl,a,_,0,_,rfl,rfl,ha.sq,rfl,rfl,_,rfl,itF (by decide) ?_⟩;refine ⟨_,rfl,a,_,0,_,rfl,rfl,ha.sq,rfl,rfl,_,rfl,itT (by decide) ?_⟩;refine ⟨_,rfl,_,rfl,a,_,1,_,rfl,rfl,ha.sq,rfl,wl,_,(v:Nat),_,rfl,rfl,SqL.of hl,aX hy,y,CW,dy,_,_,rfl,hoy,T.cl,T.nN,S3 _ _ _,?_⟩;refine ⟨_,rfl,_,rfl,a,_,1,_,rfl,rfl,ha.sq,rfl,wl,_,(v:Nat),_,rfl,rfl,SqL.of hl,aX hy,y,CW,dy,_,_,rfl,hoy,T.cl,T.nB,vS _ _ _,?_⟩;exact m7 (mY ws vals (.no v)) rfl rfl rfl q
  | add i j=>
   obtain ⟨as,hl,y,hy,hoy⟩:=hv.get hok.1;obtain ⟨bs,hl2,z,hz,hoz⟩:=hv.get hok.2;refine ⟨_,rfl,a,_,0,_,rfl,rfl,ha.sq,rfl,rfl,_,rfl,itF (by decide) ?_⟩;refine ⟨_,rfl,a,_,0,_,rfl,rfl,ha.sq,rfl,rfl,_,rfl,itF (by decide) ?_⟩;refine ⟨_,rfl,a,_,0,_,rfl,rfl,ha.sq,rfl,rfl,_,rfl,itF (by decide) ?_⟩;refine ⟨_,rfl,_,rfl,a,_,1,_,rfl,rfl,ha.sq,rfl,el,_,(i:Nat),_,rfl,rfl,SqL.of hl,aX hy,?_⟩;refine ⟨_,rfl,_,rfl,a,_,2,_,rfl,rfl,ha.sq,rfl,el,_,(j:Nat),_,rfl,rfl,SqL.of hl2,aX hz,?_⟩;refine ⟨_,rfl,a,_,0,_,rfl,rfl,ha.sq,rfl,rfl,_,rfl,itT (by decide) ?_⟩;exact ⟨_,rfl,_,rfl,y,z,_,_,rfl,hoy,hoz,q⟩
  | mul i j=>
   obtain ⟨h1,h2,⟨l1,l2,l3⟩,l4,l5,l6⟩:=hok;obtain ⟨as,hl,y,hy,dy,hoy⟩:=hv.get h1;obtain ⟨bs,hl2,z,hz,dz,hoz⟩:=hv.get h2;refine ⟨_,rfl,a,_,0,_,rfl,rfl,ha.sq,rfl,rfl,_,rfl,itF (by decide) ?_⟩;refine ⟨_,rfl,a,_,0,_,rfl,rfl,ha.sq,rfl,rfl,_,rfl,itF (by decide) ?_⟩;refine ⟨_,rfl,a,_,0,_,rfl,rfl,ha.sq,rfl,rfl,_,rfl,itF (by decide) ?_⟩;refine ⟨_,rfl,_,rfl,a,_,1,_,rfl,rfl,ha.sq,rfl,el,_,(i:Nat),_,rfl,rfl,SqL.of hl,aX hy,?_⟩;refine ⟨_,rfl,_,rfl,a,_,2,_,rfl,rfl,ha.sq,rfl,el,_,(j:Nat),_,rfl,rfl,SqL.of hl2,aX hz,?_⟩;refine ⟨_,rfl,a,_,0,_,rfl,rfl,ha.sq,rfl,rfl,_,rfl,itF (by decide) ?_⟩;refine ⟨_,rfl,y,CG,dy,_,_,rfl,hoy,G.cl,G.nT,jP _ _ _,_,rfl,z,CG,dz,_,_,rfl,hoz,G.cl,G.nT,jP _ _ _,_,_,rfl,rfl,⟨bL l1 (Nat.le_refl _),bL l4 (Nat.le_refl _)⟩,?_⟩;refine ⟨_,rfl,y,CG,dy,_,_,rfl,hoy,G.cl,G.nB,yA _ _ _,_,rfl,z,CG,dz,_,_,rfl,hoz,G.cl,G.nB,yA _ _ _,_,_,rfl,rfl,⟨bL l2 (Nat.le_refl _),bL l5 (Nat.le_refl _)⟩,?_⟩;refine ⟨_,rfl,y,CG,dy,_,_,rfl,hoy,G.cl,G.nW,pC _ _ _,_,rfl,z,CG,dz,_,_,rfl,hoz,G.cl,G.nW,pC _ _ _,_,_,rfl,rfl,⟨bL l3 (Nat.le_refl _),bL l6 (Nat.le_refl _)⟩,?_⟩;exact m7 (mY ws vals (.mul i j)) (by show _=((_*_:Nat):Int);rw[Int.natCast_mul]) (by show _=((_*_:Nat):Int);rw[Int.natCast_mul]) (by show _=((_*_:Nat):Int);rw[Int.natCast_mul]) q
theorem FW {ws:List RW}{c:Circuit}{i j:Nat}(h:j<i):(run (mY ws) (c.take i)).getD j gr0=gv ws c j:=by
 rw[(iZ (mY ws) c i).1];exact cP h
theorem VH {n:Nat}{ws:List RW}{c:Circuit}(hn:ws.length=n)(h12:n<=12)(hw:WBs ws)(w:Wf n c)(hc:c.length<=2000){i:Nat}{x:CNode}(h:c[i]?=some x):UX ws (run (mY ws) (c.take i)) x:=by
 have hi:=(List.getElem?_eq_some_iff.mp h).1;have k:=w i x h;have len:(run (mY ws) (c.take i)).length=i:=by rw[eM,List.length_take];lia
 cases x with
 | const f=>exact k
 | yes v=>exact show v<ws.length from hn▸k
 | no v=>exact show v<ws.length from hn▸k
 | add a b=>exact ⟨by rw[len];exact k.1,by rw[len];exact k.2.1⟩
 | mul a b=>
  obtain ⟨ha,hb,_⟩:=k;refine ⟨by rw[len];exact ha,by rw[len];exact hb,?_⟩;rw[FW ha,FW hb];exact ⟨⟨cC (LI hn h12 hw w hc (by lia)) (by decide),cC (DL hn h12 hw w hc (by lia)) (by decide),cC (FX hn h12 hw w hc (by lia)) (by decide)⟩,cC (LI hn h12 hw w hc (by lia)) (by decide),cC (DL hn h12 hw w hc (by lia)) (by decide),cC (FX hn h12 hw w hc (by lia)) (by decide)⟩
inductive oB (K:PySem.W.Frag) (CC CW CG:Addr) (us:List V) (H:Hp) (Q:VK) (E:XK):Prop
 | mk:∀ (a nl wl:Addr) (m:Vaprbi.Made) (ws:List RW) (n:Nat),us=[.ref a,.ref wl]->Ask K CC CW H a nl wl m ws n->(∀ (t:Addr) (H':Hp),oK CG H' t (gv ws m.nodes m.root)->aH [] H H'->Q (.ref t) H')->oB K CC CW CG us H Q E
theorem o0:aO ["circuit","weights","found","node"] ["circuit","weights"] (aI j3):=by walk_at "s"
theorem BE {CC CW CG f:Addr}{fd:FuncData}(N:xS K mg CC CW CG)(F:Def K mg "greatest_of" j3 ["circuit","weights"] f fd):aN P w K mg base CX0 5 f fd ["circuit","weights"] (oB K CC CW CG):=by
 obtain ⟨g1,d1,G1⟩:=N.gn;have O1:aN P w K mg base CX0 4 g1 d1 ["node","earlier","weights"] (zO K CW CG):=M3 N G1;refine F.fn.ok o0 (λus H Q E h=>?_) (λcdv A outer s H us Q E hr h=>?_)
 ·walk_at "l"
 ·obtain ⟨a,nl,wl,m,ws,n,rfl,hA,q⟩:=h;obtain ⟨dx,ho⟩:=hA.ci.ob;obtain ⟨as,hl,hp⟩:=hA.ci.nds;have hlen:as.length=m.nodes.length:=bB hp;have h2:=hA.ok.len
  refine ⟨_,aM (aQ (i:=2) o0.nd rfl (Or.inl rfl) (bD aC))
   (aM (jX PassesOwn.never rfl (jV (aJ (pv 0) rfl)) (dQ (i:=3) o0.nd rfl (Or.inl rfl)) (aE (bE (iB PySem.F.plainAttrs_list PySem.F.slot_list_append PySem.F.type_list_append dG (pv 2) (a9 (aS O1 hr (by rfl) G1.at_ G1.fn.kp G1.bd .nil aR (a9 (pv 3) (a9 (pv 2) (a9 (pv 1) aC)))) aC)))))
   (aE (aP (aK aL (pv 2) (aJ (pv 0) rfl) (λ_ _=>rfl))))),?_⟩
  refine ⟨λσ' H'=>∃ t,σ'=[some (.ref a),some (.ref wl),some (.ref t),none]/\H'=upd H t (.lst [])/\H t=none,?_,?_⟩
  ·exact ⟨by show 0<=sizeLine;decide,λt nt=>⟨t,rfl,rfl,nt⟩⟩
  ·rintro σ1 H1 ⟨t,rfl,rfl,nt⟩;have k0:aH [] H (upd H t (.lst [])):=aH.laid nt;refine ⟨λσ' H'=>(∃ o,σ'=[some (.ref a),some (.ref wl),some (.ref t),o])/\KB CG H' t (wM ws m.nodes)/\aH [] H H',?_,?_⟩
   ·refine ⟨_,rfl,a,CC,dx,_,_,rfl,k0 _ _ ho (by simp),N.cm.cl,N.cm.nN,eB _ _,nl,rfl,⟨_,SqL.of (k0 _ _ hl (by simp))⟩,oY (K:=K) (a:=nl) (xs:=as.map V.ref) (λi σ' H'=>(∃ o,σ'=[some (.ref a),some (.ref wl),some (.ref t),o])/\KB CG H' t (run (mY ws) (m.nodes.take i))/\aH [] H H')
     ⟨⟨_,rfl⟩,⟨[],aA,.nil⟩,k0⟩ (λi σ' H' _ z=>SqL.of (z.2.2 _ _ hl (by simp))) ?_ ?_⟩
    ·rintro i y σ' H' hy ⟨⟨o,rfl⟩,hv,z3⟩;obtain ⟨x,nd,rfl,hx,hcn,hk⟩:=yX hp hy;have hi:=(List.getElem?_eq_some_iff.mp hcn).1;obtain ⟨bs,z1,z2⟩:=id hv;refine ⟨_,rfl,.inl ⟨rfl,_,SqL.of z1⟩,_,rfl,_,rfl,_,rfl,x,t,wl,nd,_,ws,rfl,hk.keep0 z3,hv,hA.ws_.keep z3,VH hA.hn hA.h12 hA.hw hA.ok.wf h2 hcn,λy H4 hy4 k4=>?_⟩;have z1':=k4 _ _ z1 (by simp);have bl:bs.length=i:=by rw[bB z2,eM,List.length_take];lia
     refine ⟨t,_,_,rfl,rfl,z1',by rw[List.length_map,bl];exact Nat.lt_of_lt_of_le hi (Nat.le_trans h2 (show 2000<=sizeLine by decide)),⟨_,rfl⟩,⟨bs++[y],by rw[aA,List.map_append];rfl,?_⟩,((z3.trans k4).upd0 nt)⟩;rw[BW (mY ws) hcn];exact (Paired.mapP z2 λ_ _ z=>(z.keep k4).lst z1').snoc (hy4.lst z1')
    ·rintro σ' H' ⟨z1,z2,z3⟩;rw[List.length_map,hlen,List.take_length] at z2;exact ⟨z1,z2,z3⟩
   ·rintro σ2 H2 ⟨⟨o,rfl⟩,z2,z3⟩;have len:(wM ws m.nodes).length=m.nodes.length:=eM _ _;obtain ⟨bs,hl2,x,hx,hox⟩:=z2.get (i:=m.root) (by rw[len];exact hA.ok.root);exact ⟨_,rfl,_,rfl,a,CC,dx,_,_,rfl,z3 _ _ ho (by simp),N.cm.cl,N.cm.nR,oU _ _,t,_,_,_,rfl,rfl,SqL.of hl2,aX hx,q x H2 hox z3⟩
abbrev mH:Stmt:=top 21
abbrev j0:Stmt:=top 22
abbrev lJ:Stmt:=top 23
abbrev lN:Stmt:=top 24
theorem HA (l:List NN)(i:Nat)(f:NN):(rTo l i f).length=l.length:=by unfold rTo;rw[List.length_set]
theorem cU.put {fl y:Addr}{H:Hp}{l:List NN}{bs:List Addr}{i:Nat}{p:NN}(h1:H fl=some (.lst (bs.map V.ref)))(h2:Paired (λa p=>H a=some (gS p)) bs l)(hy:H y=some (gS p)):
  cU (upd H fl (.lst ((bs.map V.ref).set i (V.ref y)))) fl (l.set i p):=
 ⟨bs.set i y,by rw[aA,List.map_set],jU (Paired.mapP h2 λ_ _ z=>cU.lst z h1) (cU.lst hy h1)⟩
def UU (vals l:List NN)(f:NN):CNode->Prop
 | .add a b=>a<l.length/\b<l.length
 | .mul a b=>a<l.length/\b<l.length/\a<vals.length/\b<vals.length/\(f.1<2^9000/\f.2<2^9000)/\((vals.getD a (0,1)).1<2^9000/\(vals.getD a (0,1)).2<2^9000)/\((vals.getD b (0,1)).1<2^9000/\(vals.getD b (0,1)).2<2^9000)
 | _=>True
inductive vA (us:List V) (H:Hp) (Q:VK) (E:XK):Prop
 | mk:∀ (fl b:Addr) (i:Nat) (l:List NN) (f:NN),us=[.ref fl,.int (i:Nat),.ref b]->cU H fl l->i<l.length->H b=some (gS f)->(∀ H',cU H' fl (rTo l i f)->aH [fl] H H'->Q .non H')->vA us H Q E
theorem BZ:aO ["flows","number","flow","before"] ["flows","number","flow"] (aI mH):=by walk_at "s"
theorem JB {f:Addr}{fd:FuncData}(F:Def K mg "flow_to" mH ["flows","number","flow"] f fd):aN P w K mg base CX0 1 f fd ["flows","number","flow"] vA:=by
 refine F.fn.ok BZ (λus H Q E h=>?_) (λcdv A outer s H us Q E hr h=>?_)
 ·walk_at "l"
 ·obtain ⟨fl,b,i,l,f,rfl,hv,hi,hb,q⟩:=h;obtain ⟨as,hl,hp⟩:=id hv;obtain ⟨x,h1,hox⟩:=TC.bM hp (show l[i]?=some (l.getD i (0,1)) by rw[List.getD,List.getElem?_eq_getElem hi];rfl);have hx:(as.map V.ref)[i]?=some (V.ref x):=by rw[List.getElem?_map,h1];rfl
  have il:ixN (as.map V.ref).length ((i:Nat):Int)=some i:=pD (by rw[List.length_map,bB hp];exact hi)
  have kf:∀ {H1:Hp} {o:HO},aH [] H H1->aH [fl] H (upd H1 fl o):=λk c u z nc=>by
   rw[aB (by simpa using nc)];exact k c u z (by simp)
  refine ⟨_,aG (aQ (i:=3) BZ.nd rfl (Or.inl rfl) (aK aL (pv 0) (pv 1) (λ_ _=>rfl)))
   (aE (bC (aT bV (aK aW (pv 3) aF (λ_ _=>rfl)) aF (aY _))
    (aE (rC (pv 2) (rA (pv 0) (pv 1) j8)))
    (aE (rC (cA (a9 (b7 dJ (aK aW (pv 3) aF (λ_ _=>rfl)) (aK aW (pv 2) aF (λ_ _=>rfl))) (a9 (aK aW (pv 3) aF (λ_ _=>rfl)) aC))) (rA (pv 0) (pv 1) j8))))),?_⟩
  refine ⟨_,rfl,_,rfl,fl,_,_,_,rfl,rfl,SqL.of hl,aX hx,?_⟩;refine ⟨_,rfl,x,_,0,_,rfl,rfl,SqT.of hox,rfl,rfl,_,rfl,?_⟩;unfold rTo at q
  by_cases z:(l.getD i (0,1)).1=0
  ·rw[if_pos z] at q;refine itT (by rw[z];decide) ?_;exact ⟨_,rfl,_,rfl,_,rfl,fl,_,_,i,rfl,rfl,hl,il,q _ (cU.put hl hp hb) (kf aH.refl)⟩
  ·rw[if_neg z] at q;refine itF (by rw[cV];simp only[decide_eq_true_eq];lia) ?_;refine ⟨_,rfl,x,_,0,_,rfl,rfl,SqT.of hox,rfl,_,rfl,b,_,0,_,rfl,rfl,SqT.of hb,rfl,_,_,rfl,rfl,_,rfl,x,_,1,_,rfl,rfl,SqT.of hox,rfl,by show 2<=sizeLine;decide,λy ny=>?_⟩;have k1:aH [] H (upd H y (.tup [.int (((l.getD i (0,1)).1:Nat)+(f.1:Nat)),.int ((l.getD i (0,1)).2:Nat)])):=aH.laid ny;refine ⟨_,rfl,_,rfl,fl,_,_,i,rfl,rfl,k1 _ _ hl (by simp),il,q _ (cU.put (p:=((l.getD i (0,1)).1+f.1,(l.getD i (0,1)).2)) (k1 _ _ hl (by simp)) (Paired.mapP hp λ_ _ z=>k1 _ _ z (by simp)) ?_) (kf k1)⟩;rw[aA];unfold gS;rw[Int.natCast_add]
inductive oA (K:PySem.W.Frag) (us:List V) (H:Hp) (Q:VK) (E:XK):Prop
 | mk:∀ (a b vl fl:Addr) (x:CNode) (f:NN) (vals l:List NN),us=[.ref a,.ref b,.ref vl,.ref fl]->eO K H a (cR x)->H b=some (gS f)->cU H vl vals->cU H fl l->vl≠fl->UU vals l f x->(∀ H',cU H' fl (MU vals f l x)->aH [fl] H H'->Q .non H')->oA K us H Q E
theorem nZ:aO ["node","flow","values","flows","first","second"] ["node","flow","values","flows"] (aI j0):=by walk_at "s"
theorem eO.keepL {K:PySem.W.Frag}{H H':Hp}{b fl:Addr}{ks:List Key}{xs:List V}(h:eO K H b ks)(hf:H fl=some (.lst xs))(k:aH [fl] H H'):eO K H' b ks:=h.keep k λy hy zs e=>by
 have:y=fl:=by simpa using hy
 subst this;rw[hf] at e;cases e
theorem jE {H H':Hp}{b fl:Addr}{p:NN}{xs:List V}(h:H b=some (gS p))(hf:H fl=some (.lst xs))(k:aH [fl] H H'):H' b=some (gS p):=k _ _ h (by simpa using bI h hf (by intro z;cases z))
theorem cU.keepL {H H':Hp}{vl fl:Addr}{vals:List NN}{xs:List V}(h:cU H vl vals)(ne:vl≠fl)(hf:H fl=some (.lst xs))(k:aH [fl] H H'):cU H' vl vals:=by
 obtain ⟨as,e,p⟩:=h;exact ⟨as,k _ _ e (by simpa using ne),Paired.mapP p λ_ _ z=>jE z hf k⟩
theorem BB {f g:Addr}{fd gd:FuncData}(N:tG mg)(G:Def K mg "flow_to" mH ["flows","number","flow"] g gd)(F:Def K mg "flow_from" j0 ["node","flow","values","flows"] f fd):aN P w K mg base CX0 2 f fd ["node","flow","values","flows"] (oA K):=by
 have O1:aN P w K mg base CX0 1 g gd ["flows","number","flow"] vA:=JB G;refine F.fn.ok nZ (λus H Q E h=>?_) (λcdv A outer s H us Q E hr h=>?_)
 ·walk_at "l"
 ·obtain ⟨a,b,vl,fl,x,f,vals,l,rfl,ha,hb,hv,hf,ne,hok,q⟩:=h
  refine ⟨_,aG (bC (aT bV (aK aW (pv 0) aF (λ_ _=>rfl)) (pgi N.sum) (aY _))
    (aG (bE (aS O1 hr (by rfl) G.at_ G.fn.kp G.bd .nil aR (a9 (pv 3) (a9 (aK aW (pv 0) aF (λ_ _=>rfl)) (a9 (pv 1) aC)))))
    (aE (bE (aS O1 hr (by rfl) G.at_ G.fn.kp G.bd .nil aR (a9 (pv 3) (a9 (aK aW (pv 0) aF (λ_ _=>rfl)) (a9 (pv 1) aC))))))) aV)
   (aE (bC (aT bV (aK aW (pv 0) aF (λ_ _=>rfl)) (pgi N.prod) (aY _))
    (aG (aQ (i:=4) nZ.nd rfl (Or.inl rfl) (aK aL (pv 2) (aK aW (pv 0) aF (λ_ _=>rfl)) (λ_ _=>rfl)))
    (aG (aQ (i:=5) nZ.nd rfl (Or.inl rfl) (aK aL (pv 2) (aK aW (pv 0) aF (λ_ _=>rfl)) (λ_ _=>rfl)))
    (aG (bE (aS O1 hr (by rfl) G.at_ G.fn.kp G.bd .nil aR (a9 (pv 3) (a9 (aK aW (pv 0) aF (λ_ _=>rfl)) (a9 (cA (a9 (b7 dY (aK aW (pv 1) aF (λ_ _=>rfl)) (aK aW (pv 5) aF (λ_ _=>rfl))) (a9 (b7 dY (aK aW (pv 1) aF (λ_ _=>rfl)) (aK aW (pv 5) aF (λ_ _=>rfl))) aC))) aC)))))
    (aE (bE (aS O1 hr (by rfl) G.at_ G.fn.kp G.bd .nil aR (a9 (pv 3) (a9 (aK aW (pv 0) aF (λ_ _=>rfl)) (a9 (cA (a9 (b7 dY (aK aW (pv 1) aF (λ_ _=>rfl)) (aK aW (pv 4) aF (λ_ _=>rfl))) (a9 (b7 dY (aK aW (pv 1) aF (λ_ _=>rfl)) (aK aW (pv 4) aF (λ_ _=>rfl))) aC))) aC)))))))))
    aV)),?_⟩
  obtain ⟨bs,hfl,hfp⟩:=id hf
  cases x with
  | const c=>
   refine ⟨_,rfl,a,_,0,_,rfl,rfl,ha.sq,rfl,rfl,_,rfl,itF (by decide) ?_⟩;refine ⟨_,rfl,a,_,0,_,rfl,rfl,ha.sq,rfl,rfl,_,rfl,itF (by decide) ?_⟩;exact q H hf aH.refl
  | yes v=>
   refine ⟨_,rfl,a,_,0,_,rfl,rfl,ha.sq,rfl,rfl,_,rfl,itF (by decide) ?_⟩;refine ⟨_,rfl,a,_,0,_,rfl,rfl,ha.sq,rfl,rfl,_,rfl,itF (by decide) ?_⟩;exact q H hf aH.refl
  | no v=>
   refine ⟨_,rfl,a,_,0,_,rfl,rfl,ha.sq,rfl,rfl,_,rfl,itF (by decide) ?_⟩;refine ⟨_,rfl,a,_,0,_,rfl,rfl,ha.sq,rfl,rfl,_,rfl,itF (by decide) ?_⟩;exact q H hf aH.refl
  | add i j=>
   refine ⟨_,rfl,a,_,0,_,rfl,rfl,ha.sq,rfl,rfl,_,rfl,itT (by decide) ?_⟩;refine ⟨_,rfl,_,rfl,a,_,1,_,rfl,rfl,ha.sq,rfl,_,rfl,fl,b,i,l,f,rfl,hf,hok.1,hb,λH1 hf1 k1=>?_⟩;have ha1:=ha.keepL hfl k1;refine ⟨_,rfl,_,rfl,a,_,2,_,rfl,rfl,ha1.sq,rfl,_,rfl,fl,b,j,_,f,rfl,hf1,by rw[HA];exact hok.2,jE hb hfl k1,λH2 hf2 k2=>?_⟩;obtain ⟨bs1,hfl1,_⟩:=id hf1;refine ⟨_,rfl,a,_,0,_,rfl,rfl,(ha1.keepL hfl1 k2).sq,rfl,rfl,_,rfl,itF (by decide) ?_⟩;exact q H2 hf2 (k1.trans k2)
  | mul i j=>
   obtain ⟨h1,h2,h3,h4,⟨f1,f2⟩,⟨l1,l2⟩,l3,l4⟩:=hok;obtain ⟨as,hl,y,hy,hoy⟩:=hv.get h3;obtain ⟨as2,hl2,z,hz,hoz⟩:=hv.get h4;refine ⟨_,rfl,a,_,0,_,rfl,rfl,ha.sq,rfl,rfl,_,rfl,itF (by decide) ?_⟩;refine ⟨_,rfl,a,_,0,_,rfl,rfl,ha.sq,rfl,rfl,_,rfl,itT (by decide) ?_⟩;refine ⟨_,rfl,_,rfl,a,_,1,_,rfl,rfl,ha.sq,rfl,vl,_,(i:Nat),_,rfl,rfl,SqL.of hl,aX hy,?_⟩;refine ⟨_,rfl,_,rfl,a,_,2,_,rfl,rfl,ha.sq,rfl,vl,_,(j:Nat),_,rfl,rfl,SqL.of hl2,aX hz,?_⟩;refine ⟨_,rfl,_,rfl,a,_,1,_,rfl,rfl,ha.sq,rfl,_,rfl,b,_,0,_,rfl,rfl,SqT.of hb,rfl,_,rfl,z,_,0,_,rfl,rfl,SqT.of hoz,rfl,_,_,rfl,rfl,⟨bL f1 (Nat.le_refl _),bL l3 (Nat.le_refl _)⟩,?_⟩;refine ⟨_,rfl,b,_,1,_,rfl,rfl,SqT.of hb,rfl,_,rfl,z,_,1,_,rfl,rfl,SqT.of hoz,rfl,_,_,rfl,rfl,⟨bL f2 (Nat.le_refl _),bL l4 (Nat.le_refl _)⟩,by show 2<=sizeLine;decide,λt nt=>?_⟩;have k0:aH [] H (upd H t (.tup [.int ((f.1:Nat)*((vals.getD j (0,1)).1:Nat)),.int ((f.2:Nat)*((vals.getD j (0,1)).2:Nat))])):=aH.laid nt;refine ⟨fl,t,i,l,(f.1*(vals.getD j (0,1)).1,f.2*(vals.getD j (0,1)).2),rfl,hf.keep k0,h1,?_,λH1 hf1 k1=>?_⟩
   ·rw[aA];unfold gS;rw[Int.natCast_mul,Int.natCast_mul]
   have hfl0:=k0 _ _ hfl (by simp);have ha1:=(ha.keep0 k0).keepL hfl0 k1;have hb1:=jE (k0 _ _ hb (by simp)) hfl0 k1;have hy1:=jE (k0 _ _ hoy (by simp)) hfl0 k1;refine ⟨_,rfl,_,rfl,a,_,2,_,rfl,rfl,ha1.sq,rfl,_,rfl,b,_,0,_,rfl,rfl,SqT.of hb1,rfl,_,rfl,y,_,0,_,rfl,rfl,SqT.of hy1,rfl,_,_,rfl,rfl,⟨bL f1 (Nat.le_refl _),bL l1 (Nat.le_refl _)⟩,?_⟩;refine ⟨_,rfl,b,_,1,_,rfl,rfl,SqT.of hb1,rfl,_,rfl,y,_,1,_,rfl,rfl,SqT.of hy1,rfl,_,_,rfl,rfl,⟨bL f2 (Nat.le_refl _),bL l2 (Nat.le_refl _)⟩,by show 2<=sizeLine;decide,λt2 nt2=>?_⟩;have k2:aH [] H1 (upd H1 t2 (.tup [.int ((f.1:Nat)*((vals.getD i (0,1)).1:Nat)),.int ((f.2:Nat)*((vals.getD i (0,1)).2:Nat))])):=aH.laid nt2;refine ⟨fl,t2,j,_,(f.1*(vals.getD i (0,1)).1,f.2*(vals.getD i (0,1)).2),rfl,hf1.keep k2,by rw[HA];exact h2,?_,λH2 hf2 k3=>?_⟩
   ·rw[aA];unfold gS;rw[Int.natCast_mul,Int.natCast_mul]
   exact q H2 hf2 (((k0.mono (by simp)).trans k1).trans ((k2.mono (by simp)).trans k3))
theorem tY {α:Type}(x:α):∀ n,(List.replicate n [x]).flatten=List.replicate n x
 | 0=>rfl
 | n+1=>by rw[List.replicate_succ,List.flatten_cons,tY x n];rfl
theorem nO {α β:Type}{F:α->β->Prop}{a:α}{b:β}(h:F a b):∀ n,Paired F (List.replicate n a) (List.replicate n b)
 | 0=>.nil
 | n+1=>.cons h (nO h n)
theorem E5 (c:Circuit)(vals:List NN)(k:Nat)(l:List NN):uQ c vals (k+1) l=uQ c vals k (GZ c vals k l):=rfl
theorem VE {n:Nat}{ws:List RW}{c:Circuit}{r B:Nat}{l:List NN}{L:List Frac}(hn:ws.length=n)(h12:n<=12)(hw:WBs ws)(w:Wf n c)(hc:c.length<=2000)(hr:r<c.length)(hB:B<=4^c.length*max 1 (V ws c r))
  (h:FI n ws c r B l L) {k:Nat} {x:CNode} (hx:c[k]?=some x):UU (dX ws c) l (l.getD k (0,1)) x:=by
 have hk:=(List.getElem?_eq_some_iff.mp hx).1;have K:=w k x hx;have rl:(dX ws c).length=c.length:=eM _ _
 cases x with
 | const f=>trivial
 | yes v=>trivial
 | no v=>trivial
 | add a b=>exact ⟨by rw[h.len];exact Nat.lt_trans K.1 hk,by rw[h.len];exact Nat.lt_trans K.2.1 hk⟩
 | mul a b=>
  obtain ⟨ha,hb,_⟩:=K;have fb:=sE hn h12 hw w hc hr hB h hk;have ha':=Nat.lt_trans ha hk;have hb':=Nat.lt_trans hb hk
  exact ⟨by rw[h.len];exact ha',by rw[h.len];exact hb',by rw[rl];exact ha',by rw[rl];exact hb',⟨cC fb.1 (by decide),cC fb.2.1 (by decide)⟩,
   ⟨cC (rF hn h12 hw w hc ha') (by decide),cC (rE hn h12 hw w hc ha') (by decide)⟩,cC (rF hn h12 hw w hc hb') (by decide),cC (rE hn h12 hw w hc hb') (by decide)⟩
theorem AY {H H1 H2:Hp}{t:Addr}(k:aH [] H H1)(nt:H t=Option.none)(k2:aH [t] H1 H2):aH [] H H2:=λb o z _=>k2 b o (k b o z (by simp)) (by simpa using aD z nt)
structure F8 (K:PySem.W.Frag)(mg:Str->Option Value)(CC:Addr):Prop where
 ki:tG mg
 cm:rY K mg CC
 rg:mg "range" = none
 ft:∃ f fd,Def K mg "flow_to" mH ["flows","number","flow"] f fd
 ff:∃ f fd,Def K mg "flow_from" j0 ["node","flow","values","flows"] f fd
inductive j9 (K:PySem.W.Frag) (CC CW:Addr) (us:List V) (H:Hp) (Q:VK) (E:XK):Prop
 | mk:∀ (a nl wl vl:Addr) (m:Vaprbi.Made) (ws:List RW) (n:Nat),us=[.ref a,.ref vl]->Ask K CC CW H a nl wl m ws n->cU H vl (dX ws m.nodes)->(∀ (t:Addr) (H':Hp),cU H' t (bU ws m)->H t=none->aH [] H H'->Q (.ref t) H')->j9 K CC CW us H Q E
theorem rH:aO ["circuit","values","flows","number"] ["circuit","values"] (aI lJ):=by walk_at "s"
theorem nG {CC CW f:Addr}{fd:FuncData}(N:F8 K mg CC)(F:Def K mg "flows_of" lJ ["circuit","values"] f fd):aN P w K mg base CX0 3 f fd ["circuit","values"] (j9 K CC CW):=by
 obtain ⟨g1,d1,G1⟩:=N.ft;obtain ⟨g2,d2,G2⟩:=N.ff;have O1:aN P w K mg base CX0 2 g2 d2 ["node","flow","values","flows"] (oA K):=BB N.ki G1 G2;refine F.fn.ok rH (λus H Q E h=>?_) (λcdv A outer s H us Q E hr h=>?_)
 ·walk_at "l"
 ·obtain ⟨a,nl,wl,vl,m,ws,n,rfl,hA,hv,q⟩:=h;obtain ⟨dx,ho⟩:=hA.ci.ob;obtain ⟨as,hl,hp⟩:=hA.ci.nds;obtain ⟨vs,hvl,hvp⟩:=id hv;have hlen:as.length=m.nodes.length:=bB hp;have h2:=hA.ok.len;have hroot:=hA.ok.root
  refine ⟨_,aM (aQ (i:=2) rH.nd rfl (Or.inl rfl) (b7 MK (bD (a9 (cA (a9 aF (a9 aF aC))) aC)) (b9 aU (by rfl) N.cm.len PySem.boot_len (a9 (aJ (pv 0) rfl) aC))))
   (aM (rC (cA (a9 aF (a9 aF aC))) (rA (pv 2) (aJ (pv 0) rfl) j8))
   (aM (jX PassesOwn.never rfl (JH rfl N.rg (a9 (b7 gG (b9 aU (by rfl) N.cm.len PySem.boot_len (a9 (pv 2) aC)) aF) (a9 (MO F1 aF) (a9 (MO F1 aF) aC)))) (dQ (i:=3) rH.nd rfl (Or.inl rfl))
    (aE (bE (aS O1 hr (by rfl) G2.at_ G2.fn.kp G2.bd .nil aR (a9 (aK aL (aJ (pv 0) rfl) (pv 3) (λ_ _=>rfl)) (a9 (aK aL (pv 2) (pv 3) (λ_ _=>rfl)) (a9 (pv 1) (a9 (pv 2) aC))))))))
   (aE (aP (pv 2))))),?_⟩
  refine ⟨λσ' H'=>∃ t,σ'=[some (.ref a),some (.ref vl),some (.ref t),none]/\cU H' t (List.replicate m.nodes.length (0,1))/\H t=none/\aH [] H H',?_,?_⟩
  ·refine ⟨by show 2<=sizeLine;decide,λz nz=>⟨by show 1<=sizeLine;decide,λl nl'=>?_⟩⟩;have k1:aH [] H (upd H z (.tup [.int 0,.int 1])):=aH.laid nz;have k2:aH [] H (upd (upd H z (.tup [.int 0,.int 1])) l (.lst [.ref z])):=k1.trans (aH.laid nl');refine ⟨_,rfl,a,CC,dx,_,_,rfl,k2 _ _ ho (by simp),N.cm.cl,N.cm.nN,eB _ _,nl,_,rfl,.inl (SqL.of (k2 _ _ hl (by simp))),?_⟩;rw[List.length_map,hlen];refine ⟨l,_,_,rfl,rfl,aA,by lia,by lia,?_,λt nt=>?_⟩
   ·show 1*((m.nodes.length:Nat):Int).toNat<=sizeLine;rw[Int.toNat_natCast,Nat.one_mul];exact Nat.le_trans h2 (show 2000<=sizeLine by decide)
   ·have k3:=k2.trans (aH.laid (o:=.lst (List.replicate ((m.nodes.length:Nat):Int).toNat [V.ref z]).flatten) nt);refine ⟨t,rfl,⟨List.replicate m.nodes.length z,?_,nO ?_ _⟩,k2.none nt (by simp),k3⟩
    ·rw[aA,Int.toNat_natCast,tY,List.map_replicate]
    ·exact aH.laid (S:=[]) nt _ _ (aH.laid (S:=[]) nl' _ _ aA (by simp)) (by simp)
  ·rintro σ1 H1 ⟨t,rfl,ht,nt,k1⟩;refine ⟨λσ' H'=>σ'=[some (.ref a),some (.ref vl),some (.ref t),none]/\cU H' t (rD m.nodes m.root)/\aH [] H H',?_,?_⟩
   ·obtain ⟨bs,hb1,hb2⟩:=ht;refine ⟨by show 2<=sizeLine;decide,λz nz=>?_⟩;have k2:aH [] H1 (upd H1 z (.tup [.int 1,.int 1])):=aH.laid nz;have k12:=k1.trans k2;refine ⟨_,rfl,_,rfl,a,CC,dx,_,_,rfl,k12 _ _ ho (by simp),N.cm.cl,N.cm.nR,oU _ _,t,_,_,m.root,rfl,rfl,k2 _ _ hb1 (by simp),pD ?_,rfl,cU.put (p:=(1,1)) (k2 _ _ hb1 (by simp)) (Paired.mapP hb2 λ_ _ z=>k2 _ _ z (by simp)) aA,k12.upd0 nt⟩;rw[List.length_map,bB hb2,List.length_replicate];exact hroot
   ·rintro σ2 H2 ⟨rfl,ht2,k2⟩;have c0:0<m.nodes.length:=by lia
    refine ⟨λσ' H'=>(∃ o,σ'=[some (.ref a),some (.ref vl),some (.ref t),o])/\cU H' t (bU ws m)/\aH [] H H',?_,?_⟩
    ·obtain ⟨bs,hb1,hb2⟩:=id ht2;have bl:bs.length=m.nodes.length:=by rw[bB hb2,rD,List.length_set,List.length_replicate]
     refine ⟨_,rfl,t,_,rfl,.inl (SqL.of hb1),?_⟩;rw[List.length_map,bl];have rn:((m.nodes.length:Int)-1 - -1).toNat=m.nodes.length:=by lia
     refine ⟨_,_,rfl,rfl,_,rfl,_,rfl,((m.nodes.length:Nat):Int)-1,-1,-1,((m.nodes.length:Int)-1 - -1).toNat,rfl,RgC.neg (by lia) (by lia) (by lia) (by lia),?_⟩;rw[rn];refine DK (λk σ' H'=>(∃ o,σ'=[some (.ref a),some (.ref vl),some (.ref t),o])/\aH [] H H'/\∃ (l:List NN) (L:List Frac),cU H' t l/\FI n ws m.nodes m.root (4^k*max 1 (V ws m.nodes m.root)) l L/\uQ m.nodes (dX ws m.nodes) (m.nodes.length-k) l=bU ws m) ?_ ?_ ?_
     ·exact ⟨⟨_,rfl⟩,k2,_,_,ht2,by rw[Nat.pow_zero,Nat.one_mul];exact C5 hA.hw.ok hA.ok.wf hroot,rfl⟩
     ·rintro k σ' H' hk ⟨⟨o,rfl⟩,z3,l,L,hvl',hFI,he⟩
      obtain ⟨j,hj⟩:∃ j,m.nodes.length-k=j+1:=⟨m.nodes.length-k-1,by lia⟩
      have hj2:j<m.nodes.length:=by lia
      have ej:((m.nodes.length:Nat):Int)-1+(k:Nat)*-1=((j:Nat):Int):=by lia
      have hx:m.nodes[j]?=some m.nodes[j]:=List.getElem?_eq_getElem hj2;generalize m.nodes[j]=x at hx;obtain ⟨y,hy,hky⟩:=TC.bM hp hx;have hy':(as.map V.ref)[j]?=some (V.ref y):=by rw[List.getElem?_map,hy];rfl
      obtain ⟨bs',hb1',z,hz,hoz⟩:=hvl'.get (i:=j) (by rw[hFI.len];exact hj2);have hB:4^k*max 1 (V ws m.nodes m.root)<=4^m.nodes.length*max 1 (V ws m.nodes m.root):=Nat.mul_le_mul_right _ (Nat.pow_le_pow_right (by decide) (by lia));rw[ej];refine ⟨_,rfl,a,CC,dx,_,_,rfl,z3 _ _ ho (by simp),N.cm.cl,N.cm.nN,eB _ _,_,rfl,nl,_,_,_,rfl,rfl,SqL.of (z3 _ _ hl (by simp)),aX hy',?_⟩;refine ⟨_,rfl,_,rfl,t,_,_,_,rfl,rfl,SqL.of hb1',aX hz,_,rfl,_,rfl,?_⟩;refine ⟨y,z,vl,t,x,_,dX ws m.nodes,l,rfl,hky.keep0 z3,hoz,hv.keep z3,hvl',aD hvl nt,VE hA.hn hA.h12 hA.hw hA.ok.wf h2 hroot hB hFI hx,λH4 hv4 k4=>?_⟩;refine ⟨⟨_,rfl⟩,AY z3 nt k4,_,passDown (values (bT ws) m.nodes) (L[j]?.getD Frac.zero) L x,hv4,?_,?_⟩
      ·have:=HU hA.hn hA.hw.ok hA.ok.wf hFI hx
       rw[Nat.pow_succ,Nat.mul_comm (4^k) 4,Nat.mul_assoc];exact this
      ·rw[hj,E5] at he;unfold GZ at he;rw[hx] at he;rw[show m.nodes.length-(k+1)=j by lia];exact he
     ·rintro σ' H' ⟨z1,z3,l,L,hvl',_,he⟩;rw[Nat.sub_self] at he;have he:l=bU ws m:=he;exact ⟨z1,he▸hvl',z3⟩
    ·rintro σ3 H3 ⟨⟨o,rfl⟩,z2,z3⟩;exact ⟨_,rfl,q t H3 z2 nt z3⟩
def mZ (k:Nat)(v:Nat):CNode:=if k=1 then .yes v else .no v
theorem LR {k u v:Nat}(h:mZ k u=mZ k v):u=v:=by
 unfold mZ at h;split at h
 ·exact CNode.yes.inj h
 ·exact CNode.no.inj h
theorem IX {k:Nat}(hk:k=1∨k=2)(v:Nat):kindOf (mZ k v)=(k:Nat):=by
 rcases hk with rfl|rfl<;>rfl
theorem P2 {k:Nat}(hk:k=1∨k=2){x:CNode}(h:kindOf x=(k:Nat)):∃ v,x=mZ k v:=by
 rcases hk with rfl|rfl
 ·cases x<;>first|exact ⟨_,rfl⟩|exact absurd h (by simp only[kindOf];decide)
 ·cases x<;>first|exact ⟨_,rfl⟩|exact absurd h (by simp only[kindOf];decide)
theorem nU {l:List NN}{c:Circuit}{x:CNode}(h:x∉c)(y:CNode):cS l (c++[x]) y=if y=x then l.getD c.length (0,1) else cS l c y:=by
 unfold cS;rw[tW h y]
 by_cases e:y=x
 ·rw[if_pos e,if_pos e]
 ·rw[if_neg e,if_neg e]
def dM (l:List NN)(c:Circuit)(k n:Nat):List NN:=(List.range n).map λv=>cS l c (mZ k v)
theorem hX (l:List NN)(c:Circuit)(k n:Nat):(dM l c k n).length=n:=by unfold dM;rw[List.length_map,List.length_range]
theorem nV {l:List NN}{c:Circuit}{k n v:Nat}(h:v<n):(dM l c k n).getD v (0,1)=cS l c (mZ k v):=by
 unfold dM;rw[List.getD,List.getElem?_map,List.getElem?_range h];rfl
theorem E9 {l:List NN}{c:Circuit}{k n v:Nat}(h:mZ k v∉c)(hv:v<n):(dM l c k n).set v (l.getD c.length (0,1))=dM l (c++[mZ k v]) k n:=by
 apply List.ext_getElem?;intro i;rw[List.getElem?_set,hX];unfold dM;rw[List.getElem?_map,List.getElem?_map]
 by_cases e:v=i
 ·subst e;rw[if_pos rfl,if_pos hv,List.getElem?_range hv];show _=some (cS _ _ _);rw[nU h,if_pos rfl]
 ·rw[if_neg e]
  by_cases hi:i<n
  ·rw[List.getElem?_range hi];show some (cS _ _ _)=some (cS _ _ _);rw[nU h,if_neg λq=>e (LR q).symm]
  ·rw[List.getElem?_eq_none (by rw[List.length_range];lia)];rfl
theorem BU {l:List NN}{c:Circuit}{k n:Nat}{x:CNode}(h:x∉c)(hx:∀ v,mZ k v≠x):dM l (c++[x]) k n=dM l c k n:=by
 unfold dM;refine List.map_congr_left λv _=>?_;rw[nU h,if_neg (hx v)]
theorem E8 (l:List NN)(k n:Nat):dM l [] k n=List.replicate n (0,1):=by
 unfold dM;rw[show (λv=>cS l [] (mZ k v))=λ_=>(0,1) from rfl,List.map_const',List.length_range]
theorem SU {k:Nat}(hk:k=1∨k=2)(v:Nat):atI ((cR (mZ k v)).map kV) 1=some (.int (v:Nat)):=by
 rcases hk with rfl|rfl<;>rfl
theorem O7 {c:Circuit}{k:Nat}{x:CNode}(nd:c.Nodup)(h:c[k]?=some x):x∉c.take k:=λq=>by
 obtain ⟨hk,e⟩:=List.getElem?_eq_some_iff.mp h;obtain ⟨i,hi,e2⟩:=List.getElem_of_mem q;rw[List.length_take] at hi;rw[List.getElem_take] at e2
 have:=(List.getElem_inj nd).mp (e2.trans e.symm)
 lia
inductive mL (K:PySem.W.Frag) (CC CW:Addr) (us:List V) (H:Hp) (Q:VK) (E:XK):Prop
 | mk:∀ (a nl wl fl:Addr) (m:Vaprbi.Made) (ws:List RW) (n k:Nat) (l:List NN),us=[.ref a,.ref fl,.int (k:Nat),.int (n:Nat)]->(k=1∨k=2)->Ask K CC CW H a nl wl m ws n->cU H fl l->l.length=m.nodes.length->(∀ (t:Addr) (H':Hp),cU H' t (dM l m.nodes k n)->H t=none->aH [] H H'->Q (.ref t) H')->mL K CC CW us H Q E
theorem mJ:aO ["circuit","flows","kind","how_many","parts","number","node"] ["circuit","flows","kind","how_many"] (aI lN):=by walk_at "s"
theorem uI {CC CW f:Addr}{fd:FuncData}(N:F8 K mg CC)(F:Def K mg "parts_of" lN ["circuit","flows","kind","how_many"] f fd):aN P w K mg base CX0 1 f fd ["circuit","flows","kind","how_many"] (mL K CC CW):=by
 refine F.fn.ok mJ (λus H Q E h=>?_) (λcdv A outer s H us Q E hr h=>?_)
 ·walk_at "l"
 ·obtain ⟨a,nl,wl,fl,m,ws,n,k,l,rfl,hkk,hA,hv,hll,q⟩:=h;obtain ⟨dx,ho⟩:=hA.ci.ob;obtain ⟨as,hl,hp⟩:=hA.ci.nds;obtain ⟨vs,hvl,hvp⟩:=id hv;have hlen:as.length=m.nodes.length:=bB hp;have h2:=hA.ok.len;have h12:=hA.h12
  refine ⟨_,aM (aQ (i:=4) mJ.nd rfl (Or.inl rfl) (b7 MK (bD (a9 (cA (a9 aF (a9 aF aC))) aC)) (pv 3)))
   (aM (jX PassesOwn.never rfl (mF rfl N.rg (a9 (b9 aU (by rfl) N.cm.len PySem.boot_len (a9 (pv 1) aC)) aC)) (dQ (i:=5) mJ.nd rfl (Or.inl rfl))
    (aG (aQ (i:=6) mJ.nd rfl (Or.inl rfl) (aK aL (aJ (pv 0) rfl) (pv 5) (λ_ _=>rfl)))
    (aE (bC (aT bV (aK aW (pv 6) aF (λ_ _=>rfl)) (pv 2) (aY _)) (aE (rC (aK aL (pv 1) (pv 5) (λ_ _=>rfl)) (rA (pv 4) (aK aW (pv 6) aF (λ_ _=>rfl)) j8))) aV))))
   (aE (aP (pv 4)))),?_⟩
  refine ⟨λσ' H'=>∃ t,σ'=[some (.ref a),some (.ref fl),some (.int (k:Nat)),some (.int (n:Nat)),some (.ref t),none,none]/\cU H' t (List.replicate n (0,1))/\H t=none/\aH [] H H',?_,?_⟩
  ·refine ⟨by show 2<=sizeLine;decide,λz nz=>⟨by show 1<=sizeLine;decide,λl nl'=>?_⟩⟩;have k1:aH [] H (upd H z (.tup [.int 0,.int 1])):=aH.laid nz;have k2:aH [] H (upd (upd H z (.tup [.int 0,.int 1])) l (.lst [.ref z])):=k1.trans (aH.laid nl');refine ⟨_,rfl,l,_,_,rfl,rfl,aA,by lia,by lia,?_,λt nt=>?_⟩
   ·show 1*((n:Nat):Int).toNat<=sizeLine;rw[Int.toNat_natCast,Nat.one_mul];exact Nat.le_trans h12 (show 12<=sizeLine by decide)
   ·have k3:=k2.trans (aH.laid (o:=.lst (List.replicate ((n:Nat):Int).toNat [V.ref z]).flatten) nt);refine ⟨t,rfl,⟨List.replicate n z,?_,nO ?_ _⟩,k2.none nt (by simp),k3⟩
    ·rw[aA,Int.toNat_natCast,tY,List.map_replicate]
    ·exact aH.laid (S:=[]) nt _ _ (aH.laid (S:=[]) nl' _ _ aA (by simp)) (by simp)
  ·rintro σ1 H1 ⟨t,rfl,ht,nt,k1⟩;refine ⟨λσ' H'=>(∃ o o',σ'=[some (.ref a),some (.ref fl),some (.int (k:Nat)),some (.int (n:Nat)),some (.ref t),o,o'])/\cU H' t (dM l m.nodes k n)/\aH [] H H',?_,?_⟩
   ·refine ⟨_,rfl,fl,_,rfl,.inl (SqL.of (k1 _ _ hvl (by simp))),?_⟩;rw[List.length_map,bB hvp,hll];refine ⟨_,rfl,by lia,by lia,?_⟩;rw[Int.toNat_natCast];refine qS (n:=m.nodes.length) (λi σ' H'=>(∃ o o',σ'=[some (.ref a),some (.ref fl),some (.int (k:Nat)),some (.int (n:Nat)),some (.ref t),o,o'])/\cU H' t (dM l (m.nodes.take i) k n)/\aH [] H H') ?_ ?_ ?_
    ·exact ⟨⟨_,_,rfl⟩,by rw[List.take_zero,E8];exact ht,k1⟩
    ·rintro i σ' H' hi ⟨⟨o,o',rfl⟩,hvt,z3⟩;have hx:m.nodes[i]?=some m.nodes[i]:=List.getElem?_eq_getElem hi;generalize m.nodes[i]=x at hx;obtain ⟨y,hy,hky⟩:=TC.bM hp hx;have hy':(as.map V.ref)[i]?=some (V.ref y):=by rw[List.getElem?_map,hy];rfl
     have ei:(0:Int)+((i:Nat):Int)=((i:Nat):Int):=by lia
     have tk:m.nodes.take (i+1)=m.nodes.take i++[x]:=by rw[List.take_succ,hx];rfl
     have tl:(m.nodes.take i).length=i:=by rw[List.length_take];lia
     have out:=O7 hA.ok.nd hx;rw[ei];refine ⟨_,rfl,a,CC,dx,_,_,rfl,z3 _ _ ho (by simp),N.cm.cl,N.cm.nN,eB _ _,_,rfl,nl,_,_,_,rfl,rfl,SqL.of (z3 _ _ hl (by simp)),aX hy',?_⟩;refine ⟨_,rfl,y,_,0,_,rfl,rfl,(hky.keep0 z3).sq,G8 x,_,rfl,rfl,_,rfl,?_⟩
     by_cases hq:kindOf x=(k:Nat)
     ·refine itT (by rw[cV];exact decide_eq_true hq) ?_;obtain ⟨v,rfl⟩:=P2 hkk hq
      have hvn:v<n:=by
       have kd:=hA.ok.wf i _ hx
       rcases hkk with rfl|rfl
       ·exact kd
       ·exact kd
      obtain ⟨fs,hf1,z,hz,hoz⟩:=(hv.keep z3).get (i:=i) (by lia);obtain ⟨bs,hb1,hb2⟩:=hvt;refine ⟨_,rfl,_,rfl,fl,_,_,_,rfl,rfl,SqL.of hf1,aX hz,_,rfl,_,rfl,y,_,1,_,rfl,rfl,(hky.keep0 z3).sq,SU hkk v,t,_,_,v,rfl,rfl,hb1,pD ?_,⟨_,_,rfl⟩,?_,z3.upd0 nt⟩
      ·rw[List.length_map,bB hb2,hX];exact hvn
      ·rw[tk,← E9 out hvn,tl];exact cU.put hb1 hb2 hoz
     ·refine itF (by rw[cV];simp only[decide_eq_true_eq];exact hq) ?_;exact ⟨⟨_,_,rfl⟩,by rw[tk,BU out λv e=>hq (by rw[← e,IX hkk])];exact hvt,z3⟩
    ·rintro σ' H' ⟨z1,z2,z3⟩;rw[List.take_length] at z2;exact ⟨z1,z2,z3⟩
   ·rintro σ2 H2 ⟨⟨o,o',rfl⟩,z2,z3⟩;exact ⟨_,rfl,q t H2 z2 nt z3⟩
end
end TC
namespace TC
open PySem PySem.Spec PyProof.Rows L2 XF VaprbBase Mth Vaprbi
open Vaprbg (Var)
theorem iL.sub {l l':Toks}(h:iL l)(s:∀ x∈l',x∈l):iL l':=λx hx=>h x (s x hx)
theorem sL {l l':Toks}{x:Nat×Int}(h:takeNum l=.ok (x,l')):(∀ y∈l',y∈l)/\∃ p,(⟨p,.num x.2⟩:PTok)∈l:=by
 unfold takeNum at h;split at h
 ·cases h;exact ⟨λy hy=>List.mem_cons_of_mem _ hy,_,List.mem_cons_self ..⟩
 ·cases h
theorem A4 {l l':Toks}{x:PName}(h:takeName l=.ok (x,l')):∀ y∈l',y∈l:=by
 unfold takeName at h;split at h
 ·split at h
  ·cases h
  ·cases h;exact λy hy=>List.mem_cons_of_mem _ hy
 ·cases h
theorem qF {l l':Toks}{c:Nat}(h:takeSign c l=.ok l'):∀ y∈l',y∈l:=by
 unfold takeSign take at h;split at h
 ·cases h;exact λy hy=>List.mem_of_mem_drop hy
 ·cases h
theorem C7 {l l':Toks}{d:Int}(hs:iL l)(h:eA l=.ok (d,l')):(∀ y∈l',y∈l)/\1<=d/\d<=1000000000:=by
 unfold eA at h;split at h
 ·cases e:takeNum (l.drop 1) with
  | error f=>rw[e] at h;cases h
  | ok x=>
   obtain ⟨⟨p,n⟩,l2⟩:=x;rw[e] at h;have h:(if n<1 then Except.error ⟨7,p⟩ else Except.ok (n,l2):Except Fault (Int×Toks))=.ok (d,l'):=h;obtain ⟨t1,q,t2⟩:=sL e;split at h
   ·cases h
   ·cases h
    have:=hs _ (List.mem_of_mem_drop t2) _ rfl
    exact ⟨λy hy=>List.mem_of_mem_drop (t1 y hy),by lia,by lia⟩
 ·cases h;exact ⟨λy hy=>hy,by decide,by decide⟩
theorem vZ {l l':Toks}{f:Frac}(hs:iL l)(h:takeChance l=.ok (f,l')):(∀ y∈l',y∈l)/\CP f:=by
 rw[iK] at h
 cases e:takeNum l with
 | error f=>rw[e] at h;cases h
 | ok y=>
  obtain ⟨⟨p,n⟩,l2⟩:=y;rw[e] at h;obtain ⟨t1,q,t2⟩:=sL e;have hs2:iL l2:=hs.sub t1
  cases e2:eA l2 with
  | error f=>simp only[bind,Except.bind,e2] at h;cases h
  | ok z=>
   obtain ⟨d,l3⟩:=z;simp only[bind,Except.bind,e2] at h;obtain ⟨t3,d1,d2⟩:=C7 hs2 e2;split at h
   ·cases h
   ·rename_i hc;cases h;have hp:0<d.toNat:=by lia
    refine ⟨λy hy=>t1 y (t3 y hy),cF hp,?_,?_,?_⟩
    ·exact Int.not_lt.mp λq=>by have:=(jN (n:=n) hp).mp q;lia
    ·exact Int.not_lt.mp λq=>by have:=(kX (n:=n) hp).mp q;lia
    ·rw[dS hp];show d.toNat / _<=_;exact Nat.le_trans (Nat.div_le_self _ _) (by lia)
structure ID (vs:List Var):Prop where
 nd:(vs.map (·.name)).Nodup
 ch:∀ v∈vs,CP v.chance
theorem EX {vs:List Var}{l l':Toks}{x:Var}(hs:iL l)(hv:ID vs)(h:cN vs l=.ok (x,l')):(∀ y∈l',y∈l)/\ID (vs++[x]):=by
 unfold cN at h;split at h
 ·cases h
 ·cases e:takeName l with
  | error f=>rw[e] at h;cases h
  | ok y=>
   obtain ⟨y,l1⟩:=y;rw[e] at h;simp only[bind,Except.bind] at h;have s1:=A4 e;split at h
   ·cases h
   ·rename_i hn
    cases e2:takeSign 58 l1 with
    | error f=>simp only[e2] at h;cases h
    | ok l2=>
     simp only[e2] at h;have s2:=qF e2
     cases e3:takeChance l2 with
     | error f=>simp only[e3] at h;cases h
     | ok z=>
      obtain ⟨c,l3⟩:=z;simp only[e3] at h;cases h;obtain ⟨s3,hc⟩:=vZ (hs.sub λz hz=>s1 z (s2 z hz)) e3;refine ⟨λz hz=>s1 z (s2 z (s3 z hz)),?_,?_⟩
      ·rw[List.map_append,List.nodup_append];refine ⟨hv.nd,by simp,λa ha b hb eab=>?_⟩;have hb:b=y.name:=by simpa using hb
       obtain ⟨v,hv1,hv2⟩:=List.mem_map.mp ha
       exact hn (by
        rw[List.any_eq_true]
        exact ⟨v,hv1,by simp[hv2,eab,hb]⟩)
      ·intro v hvm
       rcases List.mem_append.mp hvm with q|q
       ·exact hv.ch v q
       ·have:v=⟨y.name,c⟩:=by simpa using q
        subst this;exact hc
theorem sM:∀ (n:Nat) {vs vs':List Var} {l:Toks},iL l->ID vs->Vaprbg.takeVars n vs l=.ok vs'->ID vs'/\vs'≠[]
 | 0,vs,vs',l,_,_,h=>by cases h
 | n+1,vs,vs',l,hs,hv,h=>by
  rw[mV] at h
  cases e:cN vs l with
  | error f=>rw[e] at h;cases h
  | ok y=>
   obtain ⟨x,l1⟩:=y;rw[e] at h;simp only[bind,Except.bind] at h;obtain ⟨s1,v1⟩:=EX hs hv e;split at h
   ·cases h;exact ⟨v1,by simp⟩
   ·cases e2:takeSign 44 l1 with
    | error f=>simp only[e2] at h;cases h
    | ok l2=>
     simp only[e2] at h;exact sM n (hs.sub λz hz=>s1 z (qF e2 z hz)) v1 h
theorem BS {bs:Bytes}{vs:List Var}(h:Vaprbg.readVars bs=.ok vs):ID vs/\vs≠[]:=by
 unfold Vaprbg.readVars at h
 cases e:tokens bs with
 | error f=>rw[e] at h;cases h
 | ok l=>
  rw[e] at h;exact sM _ (vs:=[]) (qJ e) ⟨List.nodup_nil,λv hv=>by cases hv⟩ h
end TC
namespace TC
open PySem PySem.Spec PyProof.Rows L2 XF VaprbBase Mth Vaprbi
open Vaprbg (Var Form)
abbrev sDk (j:Nat):Stmt:=eW (top 102) j
abbrev hZ:Stmt:=top 103
abbrev pW:Stmt:=top 104
def dkF (nm ch wl cl:Addr):List (Str×V):=[("names",.ref nm),("chances",.ref ch),("weights",.ref wl),("circuits",.ref cl)]
theorem hJ (nm ch wl cl:Addr):(dkF nm ch wl cl).lookup ("names" : Str)=some (.ref nm):=rfl
theorem DG (nm ch wl cl:Addr):(dkF nm ch wl cl).lookup ("chances" : Str)=some (.ref ch):=by with_unfolding_all rfl
theorem cW (nm ch wl cl:Addr):(dkF nm ch wl cl).lookup ("weights" : Str)=some (.ref wl):=by with_unfolding_all rfl
theorem bR (nm ch wl cl:Addr):(dkF nm ch wl cl).lookup ("circuits" : Str)=some (.ref cl):=by with_unfolding_all rfl
theorem nL {α β γ:Type}{F:α->γ->Prop}{g:β->γ}:∀ {xs:List α} {ys:List β},Paired F xs (ys.map g)->Paired (λa b=>F a (g b)) xs ys
 | [],[],_=>.nil
 | _::_,_::_,.cons h r=>.cons h (nL r)
def AA (H:Hp)(ch:Addr)(vs:List Var):Prop:=∃ as:List Addr,H ch=some (.lst (as.map V.ref))/\Paired (λa (v:Var)=>H a=some (AO v.chance)) as vs
theorem AA.keep {ch:Addr}{H H':Hp}{vs:List Var}(h:AA H ch vs)(k:aH [] H H'):AA H' ch vs:=by
 obtain ⟨as,e,p⟩:=h;exact ⟨as,k _ _ e (by simp),Paired.mapP p λ_ _ z=>k _ _ z (by simp)⟩
structure Dk (K:PySem.W.Frag)(CD CC CW gh:Addr)(H:Hp)(d dx nm ch wl cl:Addr)(s:Vaprbi.State)(ws:List RW):Prop where
 ob:H d=some (.ins CD dx (dkF nm ch wl cl))
 nms:H nm=some (.lst (nmV (s.vars.map (·.name))))
 chs:AA H ch s.vars
 wts:i7 CW H wl ws
 spec:bT ws=s.weights
 wb:WBs ws
 wlen:ws.length=s.vars.length
 vok:ID s.vars
 v12:s.vars.length<=12
 crs:∃ cs:List Addr,H cl=some (.lst (cs.map V.ref))/\Paired (λc (p:Form×Vaprbi.Made)=>∃ nl,nl≠cl/\nl≠wl/\nl≠gh/\tE K CC H c nl p.2.nodes p.2.root) cs s.made
 mok:∀ p∈s.made,MOk s.vars.length p.2
 m16:s.made.length<=16
 ne:nm≠wl/\nm≠cl/\ch≠wl/\ch≠cl/\wl≠cl
 gs:∃ o,H gh=some o
 gd:gh≠d
 ng:gh≠nm/\gh≠ch/\gh≠wl/\gh≠cl
theorem Dk.keep {K:PySem.W.Frag}{CD CC CW gh:Addr}{H H':Hp}{d dx nm ch wl cl:Addr}{s:Vaprbi.State}{ws:List RW}(h:Dk K CD CC CW gh H d dx nm ch wl cl s ws)(k:aH [] H H'):Dk K CD CC CW gh H' d dx nm ch wl cl s ws:=by
 obtain ⟨cs,c1,c2⟩:=h.crs;obtain ⟨o,ho⟩:=h.gs;exact { h with gs:=⟨o,k _ _ ho (by simp)⟩,ob:=k _ _ h.ob (by simp),nms:=k _ _ h.nms (by simp),chs:=h.chs.keep k,wts:=h.wts.keep k,crs:=⟨cs,k _ _ c1 (by simp),Paired.mapP c2 λ_ _ ⟨nl,a,b,c,z⟩=>⟨nl,a,b,c,z.keep k⟩⟩ }
structure rZ (K:PySem.W.Frag)(mg:Str->Option Value)(CD:Addr):Prop where
 cl:Cls K CD
 nN:aZ K CD "names"
 nH:aZ K CD "chances"
 nW:aZ K CD "weights"
 nC:aZ K CD "circuits"
 at_:mg "Desk" = some (.ref CD)
 len:mg "len" = none
section
variable {P:Program}{w:World}{K:PySem.W.Frag}{mg:Str->Option Value}{base:Heap}
structure R4 (K:PySem.W.Frag)(CD f:Addr)(fd:FuncData):Prop where
 mak:Mk K CD f
 fn:Fun K "__init__" "Desk.__init__" (sDk 0) f fd
 bd:cZ K fd ["self"] []
inductive zM (CD:Addr) (us:List V) (H:Hp) (Q:VK) (E:XK):Prop
 | mk:∀ (d dx:Addr),us=[.ref d]->H d=some (.ins CD dx [])->(∀ (nm ch wl cl:Addr) (H':Hp),H' d=some (.ins CD dx (dkF nm ch wl cl))->H' nm=some (.lst [])->H' ch=some (.lst [])->H' wl=some (.lst [])->H' cl=some (.lst [])->
 H nm=none/\H ch=none/\H wl=none/\H cl=none->(nm≠wl/\nm≠cl/\ch≠wl/\ch≠cl/\wl≠cl)->aH [d] H H'->Q .non H')->zM CD us H Q E
theorem QE:aO ["self"] ["self"] (aI (sDk 0)):=by walk_at "s"
theorem M0 {CD f:Addr}{fd:FuncData}(T:rZ K mg CD)(F:R4 K CD f fd):aN P w K mg base CX0 1 f fd ["self"] (zM CD):=by
 refine F.fn.ok QE (λus H Q E h=>?_) (λcdv A outer s H us Q E hr h=>?_)
 ·walk_at "l"
 ·obtain ⟨d,dx,rfl,h0,q⟩:=h;refine ⟨_,aG (bY (pv 0) (bD aC) rfl) (aG (bY (pv 0) (bD aC) rfl) (aG (bY (pv 0) (bD aC) rfl) (aE (bY (pv 0) (bD aC) rfl)))),?_⟩;have z0:0<=sizeLine:=Nat.zero_le _;refine ⟨z0,λnm n1=>⟨_,rfl,d,CD,dx,_,rfl,by rw[aB (aD h0 n1)];exact h0,T.cl,T.nN,by show 0<1000;decide,?_⟩⟩;refine ⟨z0,λch n2=>⟨_,rfl,d,CD,dx,_,rfl,by rw[aB (aD aA n2)];exact aA,T.cl,T.nH,by show 1<1000;decide,?_⟩⟩;refine ⟨z0,λwl n3=>⟨_,rfl,d,CD,dx,_,rfl,by rw[aB (aD aA n3)];exact aA,T.cl,T.nW,by show 2<1000;decide,?_⟩⟩;refine ⟨z0,λcl n4=>⟨_,rfl,d,CD,dx,_,rfl,by rw[aB (aD aA n4)];exact aA,T.cl,T.nC,by show 3<1000;decide,?_⟩⟩;have ndm:nm≠d:=λz=>by rw[z,h0] at n1;cases n1
  have a2:ch≠d:=(aD aA n2).symm;have a3:wl≠d:=(aD aA n3).symm;have a4:cl≠d:=(aD aA n4).symm;have e1:nm≠ch:=aD (by rw[aB ndm];exact aA) n2;have e2:nm≠wl:=aD (by rw[aB ndm,aB e1,aB ndm];exact aA) n3;have e3:nm≠cl:=aD (by rw[aB ndm,aB e2,aB ndm,aB e1,aB ndm];exact aA) n4;have e4:ch≠wl:=aD (by rw[aB a2];exact aA) n3;have e5:ch≠cl:=aD (by rw[aB a2,aB e4,aB a2];exact aA) n4;have e6:wl≠cl:=aD (by rw[aB a3];exact aA) n4;rw[aB a2,aB e1.symm] at n2;rw[aB a3,aB e4.symm,aB a3,aB e2.symm] at n3;rw[aB a4,aB e6.symm,aB a4,aB e5.symm,aB a4,aB e3.symm] at n4;refine q nm ch wl cl _ (aA.trans (by with_unfolding_all rfl)) ?_ ?_ ?_ ?_ ⟨n1,n2,n3,n4⟩ ⟨e2,e3,e4,e5,e6⟩ λb o z nb=>?_
  ·rw[aB ndm,aB e3,aB ndm,aB e2,aB ndm,aB e1,aB ndm];exact aA
  ·rw[aB a2,aB e5,aB a2,aB e4,aB a2];exact aA
  ·rw[aB a3,aB e6,aB a3];exact aA
  ·rw[aB a4];exact aA
  ·have nb':b≠d:=by simpa using nb
   rw[aB nb',aB (aD z n4),aB nb',aB (aD z n3),aB nb',aB (aD z n2),aB nb',aB (aD z n1)];exact z
inductive EN (CD:Addr) (us:List V) (H:Hp) (Q:VK) (E:XK):Prop
 | mk:∀ (d dx nm ch wl cl:Addr) (k:Int) (xs:List V),us=[.ref d,.int k]->H d=some (.ins CD dx (dkF nm ch wl cl))->H cl=some (.lst xs)->Q (.bl (decide (0<=k/\k<xs.length))) H->EN CD us H Q E
inductive zP (CD:Addr) (us:List V) (H:Hp) (Q:VK) (E:XK):Prop
 | mk:∀ (d dx nm ch wl cl:Addr) (k:Int) (xs:List V),us=[.ref d,.int k]->H d=some (.ins CD dx (dkF nm ch wl cl))->H nm=some (.lst xs)->Q (.bl (decide (0<=k/\k<xs.length))) H->zP CD us H Q E
theorem TW:aO ["self","number"] ["self","number"] (aI (sDk 3)):=by walk_at "s"
theorem TX:aO ["self","number"] ["self","number"] (aI (sDk 4)):=by walk_at "s"
theorem PH {CD f:Addr}{fd:FuncData}(T:rZ K mg CD)(F:bN K CD "has_circuit" "Desk.has_circuit" (sDk 3) ["self","number"] f fd):aN P w K mg base CX0 1 f fd ["self","number"] (EN CD):=by
 refine F.fn.ok TW (λus H Q E h=>?_) (λcdv A outer s H us Q E hr h=>?_)
 ·walk_at "l"
 ·obtain ⟨d,dx,nm,ch,wl,cl,k,xs,rfl,ho,hn,q⟩:=h;refine ⟨_,aE (aP (iX pL eZ aF (pv 1) (b9 aU (by rfl) T.len PySem.boot_len (a9 (aJ (pv 0) rfl) aC)))),?_⟩;k_caughtN0
  by_cases h0:0<=k
  ·rw[if_pos (decide_eq_true h0)];refine ⟨_,rfl,d,CD,dx,_,_,rfl,ho,T.cl,T.nC,bR _ _ _ _,cl,rfl,_,.inl (SqL.of hn),?_⟩;simpa [h0] using q
  ·rw[if_neg (by simpa using h0)];simpa [h0] using q
theorem GH {CD f:Addr}{fd:FuncData}(T:rZ K mg CD)(F:bN K CD "has_variable" "Desk.has_variable" (sDk 4) ["self","number"] f fd):aN P w K mg base CX0 1 f fd ["self","number"] (zP CD):=by
 refine F.fn.ok TX (λus H Q E h=>?_) (λcdv A outer s H us Q E hr h=>?_)
 ·walk_at "l"
 ·obtain ⟨d,dx,nm,ch,wl,cl,k,xs,rfl,ho,hn,q⟩:=h;refine ⟨_,aE (aP (iX pL eZ aF (pv 1) (b9 aU (by rfl) T.len PySem.boot_len (a9 (aJ (pv 0) rfl) aC)))),?_⟩;k_caughtN0
  by_cases h0:0<=k
  ·rw[if_pos (decide_eq_true h0)];refine ⟨_,rfl,d,CD,dx,_,_,rfl,ho,T.cl,T.nN,hJ _ _ _ _,nm,rfl,_,.inl (SqL.of hn),?_⟩;simpa [h0] using q
  ·rw[if_neg (by simpa using h0)];simpa [h0] using q
inductive HR (CD CW:Addr) (us:List V) (H:Hp) (Q:VK) (E:XK):Prop
 | mk:∀ (d dx nm ch wl cl:Addr) (vs:List Var),us=[.ref d]->H d=some (.ins CD dx (dkF nm ch wl cl))->AA H ch vs->vs.length<=12->(∀ v∈vs,CP v.chance)->(∀ (t:Addr) (H':Hp),H' d=some (.ins CD dx (dkF nm ch t cl))->i7 CW H' t (tQ vs)->H t=none->aH [d] H H'->Q .non H')->HR CD CW us H Q E
theorem ND:aO ["self","chance"] ["self"] (aI (sDk 2)):=by walk_at "s"
theorem SG:tD ["self","chance"] (aI (sDk 2)) { kind:=.function,names:=[(".0",.local),("chance",.local),("weight_by_chance",.globalImplicit)],isGenerator:=false,isCoroutine:=false } [("chance",1)]:=
 ⟨rfl,by decide +kernel,by decide +kernel,by decide +kernel,by decide +kernel⟩
theorem kR.ins {CW CD a d dx dx':Addr}{H:Hp}{w:RW}{fs fs':List (Str×V)}(h:kR CW H a w)(hd:H d=some (.ins CD dx fs))(ne:CD≠CW):kR CW (upd H d (.ins CD dx' fs')) a w:=by
 obtain ⟨dy,e⟩:=h;exact ⟨dy,by rw[aB (bI e hd (by intro z;injection z with z;exact ne z.symm))];exact e⟩
theorem MF {CD CW f:Addr}{fd:FuncData}(nc:CD≠CW)(T:rZ K mg CD)(WC:∃ f fd,eU K mg CW f fd)(BC:∃ f fd,Def K mg "weight_by_chance" gX ["chance"] f fd)(F:bN K CD "weigh_by_chances" "Desk.weigh_by_chances" (sDk 2) ["self"] f fd):aN P w K mg base CX0 4 f fd ["self"] (HR CD CW):=by
 obtain ⟨g1,d1,G1⟩:=WC;obtain ⟨g2,d2,G2⟩:=BC;have O2:aN P w K mg base CX0 3 g2 d2 ["chance"] (o9 CW):=BA G1 G2;refine F.fn.ok ND (λus H Q E h=>?_) (λcdv A outer s H us Q E hr h=>?_)
 ·walk_at "l"
 ·obtain ⟨d,dx,nm,ch,wl,cl,vs,rfl,ho,⟨as,hl,hp⟩,h12,hch,q⟩:=h;have hlen:as.length=vs.length:=bB hp
  refine ⟨_,aE (bY (pv 0) (GQ (own:=[("chance",1)]) rfl ND.nd (jV (aJ (pv 0) rfl)) SG
   (λ_ _ _ _ _=>dQ (i:=1) ND.nd rfl (Or.inl rfl)) (λ_ _ _ _ _=>yU) (λ_ _ _ _ _=>aS O2 hr (by rfl) G2.at_ G2.fn.kp G2.bd .nil aR (a9 (pv 1) aC))) rfl),?_⟩
  refine ⟨_,rfl,d,CD,dx,_,_,rfl,ho,T.cl,T.nH,DG _ _ _ _,ch,rfl,⟨_,SqL.of hl⟩,λD nD=>?_⟩
  refine yE (K:=K) (a:=ch) (xs:=as.map V.ref) (λi H'=>(∃ zs:List Addr,H' D=some (.lst (zs.map V.ref))/\Paired (kR CW H') zs (tQ (vs.take i)))/\aH [] H H')
   ⟨⟨[],aA,.nil⟩,aH.laid nD⟩ (λi H' _ z=>SqL.of (z.2 _ _ hl (by simp))) ?_ ?_
  ·rintro i y H' hy ⟨⟨zs,z1,z2⟩,z3⟩;obtain ⟨x,v,rfl,hx,hcn,hk⟩:=yX hp hy;have il:i<vs.length:=(List.getElem?_eq_some_iff.mp hcn).1;have tk:vs.take (i+1)=vs.take i++[v]:=by rw[List.take_succ,hcn];rfl
   refine ⟨rfl,?_⟩;refine ⟨_,rfl,x,v.chance,rfl,z3 _ _ hk (by simp),hch v (List.mem_of_getElem? hcn),λt H4 ht nt k4=>?_⟩;have z1':=k4 _ _ z1 (by simp);refine ⟨_,z1',?_,⟨zs++[t],by rw[aA,List.map_append];rfl,?_⟩,(z3.trans k4).upd0 nD⟩
   ·rw[List.length_map,bB z2,tQ,List.length_map,List.length_take];exact Nat.lt_of_le_of_lt (Nat.le_trans (Nat.min_le_right _ _) h12) (show 12<sizeLine by decide)
   ·rw[tk,tQ,List.map_append];exact (Paired.mapP z2 λ_ _ z=>(z.keep k4).lst z1').snoc (ht.lst z1')
  ·rintro H' ⟨⟨zs,z1,z2⟩,z3⟩;rw[List.length_map,hlen,List.take_length] at z2;have ho':=z3 _ _ ho (by simp);refine ⟨_,rfl,d,CD,dx,_,rfl,ho',T.cl,T.nW,by show 4<1000;decide,q D _ (aA.trans (by with_unfolding_all rfl)) ⟨zs,?_,Paired.mapP z2 λ_ _ z=>z.ins ho' nc⟩ nD λb o z nb=>?_⟩
   ·rw[aB (bI z1 ho' (by intro z;cases z))];exact z1
   ·rw[aB (by simpa using nb)];exact z3 b o z (by simp)
structure KC (K:PySem.W.Frag)(mg:Str->Option Value)(CD CW CV:Addr):Prop where
 nc:CD≠CW
 nv:CD≠CV
 T:rZ K mg CD
 WC:∃ f fd,eU K mg CW f fd
 BC:∃ f fd,Def K mg "weight_by_chance" gX ["chance"] f fd
 wbc:∃ f fd,bN K CD "weigh_by_chances" "Desk.weigh_by_chances" (sDk 2) ["self"] f fd
 vcl:Cls K CV
 vN:aZ K CV "names"
 vC:aZ K CV "chances"
inductive EO (CD CW CV:Addr) (us:List V) (H:Hp) (Q:VK) (E:XK):Prop
 | mk:∀ (d dx nm ch wl cl v nl cv:Addr) (vs:List Var),us=[.ref d,.ref v]->H d=some (.ins CD dx (dkF nm ch wl cl))->VAt CV H v nl cv (vs.map (·.name)) (vs.map (·.chance))->vs.length<=12->(∀ v∈vs,CP v.chance)->(∀ (t c:Addr) (H':Hp),H' d=some (.ins CD dx (dkF nl cv t c))->i7 CW H' t (tQ vs)->H' c=some (.lst [])->H t=none->H c=none->t≠c->aH [d] H H'->Q .non H')->EO CD CW CV us H Q E
theorem TY:aO ["self","variables"] ["self","variables"] (aI (sDk 1)):=by walk_at "s"
theorem tS (nm ch wl cl:Addr):(dkF nm ch wl cl).lookup ("weigh_by_chances" : Str)=none/\(dkF nm ch wl cl).lookup ("hold" : Str)=none/\(dkF nm ch wl cl).lookup ("has_circuit" : Str)=none/\(dkF nm ch wl cl).lookup ("has_variable" : Str)=none:=by
 refine ⟨?_,?_,?_,?_⟩<;>with_unfolding_all rfl
theorem PJ {CD CW CV f:Addr}{fd:FuncData}(N:KC K mg CD CW CV)(F:bN K CD "hold" "Desk.hold" (sDk 1) ["self","variables"] f fd):aN P w K mg base CX0 6 f fd ["self","variables"] (EO CD CW CV):=by
 obtain ⟨g1,d1,G1⟩:=N.wbc;have O1:aN P w K mg base CX0 4 g1 d1 ["self"] (HR CD CW):=MF N.nc N.T N.WC N.BC G1;have T:=N.T;refine F.fn.ok TY (λus H Q E h=>?_) (λcdv A outer s H us Q E hr h=>?_)
 ·walk_at "l"
 ·obtain ⟨d,dx,nm,ch,wl,cl,v,nl,cv,vs,rfl,ho,hV,h12,hch,q⟩:=h;obtain ⟨dv,hv⟩:=hV.ob;obtain ⟨as,hc1,hc2⟩:=hV.ch;have hn1:=hV.nm
  refine ⟨_,aG (bY (pv 0) (aJ (pv 1) rfl) rfl) (aG (bY (pv 0) (aJ (pv 1) rfl) rfl) (aG (bY (pv 0) (bD aC) rfl)
   (aE (bE (c6 (pv 0) T.cl G1.me O1 (hr.mono (by decide)) G1.bd .nil aR))))),?_⟩
  have ndv:v≠d:=bI hv ho (by intro z;injection z with z;exact N.nv z.symm);refine ⟨_,rfl,v,CV,dv,_,_,rfl,hv,N.vcl,N.vN,by with_unfolding_all rfl,_,rfl,d,CD,dx,_,rfl,ho,T.cl,T.nN,by show 4<1000;decide,?_⟩;refine ⟨_,rfl,v,CV,dv,_,_,rfl,by rw[aB ndv];exact hv,N.vcl,N.vC,by with_unfolding_all rfl,_,rfl,d,CD,dx,_,rfl,aA,T.cl,T.nH,by show 4<1000;decide,?_⟩;refine ⟨Nat.zero_le _,λc nc=>⟨_,rfl,d,CD,dx,_,rfl,by rw[aB (aD aA nc)];exact aA,T.cl,T.nC,by show 4<1000;decide,?_⟩⟩;have cd:c≠d:=(aD aA nc).symm;rw[aB cd,aB cd] at nc
  have kd:∀ b o,H b=some o->b≠d->(upd (upd (upd (upd H d (.ins CD dx (dkF nl ch wl cl))) d (.ins CD dx (dkF nl cv wl cl))) c (.lst [])) d (.ins CD dx (dkF nl cv wl c))) b=some o:=λb o z nb=>by
   rw[aB nb,aB (aD z nc),aB nb,aB nb];exact z
  have md:∀ {b:Addr} {xs:List V},H b=some (.lst xs)->b≠d:=λz=>bI z ho (by intro z;cases z);have mt:∀ {b:Addr} {xs:List V},H b=some (.tup xs)->b≠d:=λz=>bI z ho (by intro z;cases z);refine ⟨_,rfl,d,dx,dkF nl cv wl c,rfl,aA.trans (by with_unfolding_all rfl),(tS _ _ _ _).1,d,dx,nl,cv,wl,c,vs,rfl,aA.trans (by with_unfolding_all rfl),⟨as,kd _ _ hc1 (md hc1),Paired.mapP (nL hc2) λ_ _ z=>kd _ _ z (mt z)⟩,h12,hch,λt H' e1 e2 nt k=>?_⟩
  have td:t≠d:=λz=>by
   rw[z] at nt
   have:(upd (upd (upd (upd H d (.ins CD dx (dkF nl ch wl cl))) d (.ins CD dx (dkF nl cv wl cl))) c (.lst [])) d (.ins CD dx (dkF nl cv wl c))) d=none:=nt
   rw[aA] at this;cases this
  have nt':(upd (upd (upd (upd H d (.ins CD dx (dkF nl ch wl cl))) d (.ins CD dx (dkF nl cv wl cl))) c (.lst [])) d (.ins CD dx (dkF nl cv wl c))) t=none:=nt
  have tc:t≠c:=λz=>by
   rw[z,aB cd,aA] at nt';cases nt'
  have k':aH [d] (upd (upd (upd (upd H d (.ins CD dx (dkF nl ch wl cl))) d (.ins CD dx (dkF nl cv wl cl))) c (.lst [])) d (.ins CD dx (dkF nl cv wl c))) H':=k;rw[aB td,aB tc,aB td,aB td] at nt';refine q t c H' e1 e2 (k' c _ (by rw[aB cd];exact aA) (by simpa using cd)) nt' nc tc λb o z nb=>?_;have nb':b≠d:=by simpa using nb
  exact k' b o (kd b o z nb') nb
inductive iD (C:Addr) (us:List V) (H:Hp) (Q:VK) (E:XK):Prop
 | mk:∀ (e:Addr) (c p:Int),us=[.ref e]->F7 C H e c p->(∀ r,H r=none->Q (.ref r) (upd H r (.lst [.int 0,.int c,.int p])))->iD C us H Q E
theorem C1:aO ["fault"] ["fault"] (aI hZ):=by walk_at "s"
theorem pF {C f fC:Addr}{fd cd:FuncData}(T:gE K mg C fC cd)(F:Def K mg "tell_fault" hZ ["fault"] f fd):AC P w K mg base 1 f fd ["fault"] (iD C):=by
 refine F.fn.okQ C1 (λus H Q E h=>?_) (λcdv A outer s H us Q E h=>?_)
 ·walk_at "l"
 ·obtain ⟨e,c,p,rfl,⟨d,h1,h2⟩,q⟩:=h;refine ⟨_,aE (aP (bD (a9 aF (a9 (GU (pv 0) rfl) (a9 (GU (pv 0) rfl) aC))))),?_⟩;refine ⟨_,rfl,e,C,d,_,_,rfl,h1,h2,T.xc,T.nC,rfl,_,rfl,e,C,d,_,_,rfl,h1,h2,T.xc,T.nP,by with_unfolding_all rfl,by show 3<=sizeLine;decide,λr nr=>q r nr⟩
def bQ (xs:List Int):List V:=xs.map V.int
inductive fE (us:List V) (H:Hp) (Q:VK) (E:XK):Prop
 | mk:∀ (a:Addr) (p:NN),us=[.ref a]->H a=some (gS p)->0<p.2->p.2<2^9000->(∀ (r:Addr) (H':Hp),H' r=some (.lst (bQ (fracRow (frac p.1 p.2))))->H r=none->aH [] H H'->Q (.ref r) H')->fE us H Q E
theorem NB:aO ["fraction"] ["fraction"] (aI pW):=by walk_at "s"
theorem fK {f:Addr}{fd:FuncData}(ls:mg "list" = none)(R:KG K mg)(F:Def K mg "tell_fraction" pW ["fraction"] f fd):aN P w K mg base CX0 3 f fd ["fraction"] fE:=by
 obtain ⟨g1,d1,G1⟩:=R.gcd;obtain ⟨g2,d2,G2⟩:=R.low;have O2:aN P w K mg base CX0 2 g2 d2 ["top","bottom"] C4:=DW R.ab G2 G1;refine F.fn.ok NB (λus H Q E h=>?_) (λcdv A outer s H us Q E hr h=>?_)
 ·walk_at "l"
 ·obtain ⟨a,p,rfl,ha,p0,pb,q⟩:=h;refine ⟨_,aE (aP (r9 jL (by rfl) ls tP (a9 (aS O2 hr (by rfl) G2.at_ G2.fn.kp G2.bd .nil aR (a9 (aK aW (pv 0) aF (λ_ _=>rfl)) (a9 (aK aW (pv 0) aF (λ_ _=>rfl)) aC))) aC))),?_⟩;refine ⟨_,rfl,a,_,0,_,rfl,rfl,SqT.of ha,rfl,_,rfl,a,_,1,_,rfl,rfl,SqT.of ha,rfl,p.1,p.2,rfl,p0,yF pb (Nat.le_refl _),λt nt=>?_⟩;refine ⟨t,_,rfl,.inr (SqT.of aA),λr nr=>?_⟩;have k:aH [] H (upd (upd H t (.tup [.int (frac p.1 p.2).num,.int (frac p.1 p.2).den])) r (.lst [.int (frac p.1 p.2).num,.int (frac p.1 p.2).den])):=(aH.laid nt).trans (aH.laid nr);exact q r _ aA ((aH.laid (S:=[]) nt).none nr (by simp)) k
abbrev bO (j:Nat):Stmt:=top (105+j)
theorem IR {j n:Nat}(h:j<n):Vaprbg.index (j:Int) n=some j:=by
 unfold Vaprbg.index;rw[if_pos ⟨by lia,by lia⟩];rfl
theorem d9 {s:Vaprbi.State}{j:Nat}{f:Form}{m:Vaprbi.Made}(h:s.made[j]?=some (f,m))(g:Vaprbi.Made->Vaprbi.Answer):withMade s (j:Int) g=g m:=by
 unfold withMade;rw[IR (List.getElem?_eq_some_iff.mp h).1];show (match s.made[j]? with|some m=>g m.2|none=>_)=_;rw[h]
theorem Dk.ask {K:PySem.W.Frag}{CD CC CW gh:Addr}{H:Hp}{d dx nm ch wl cl:Addr}{s:Vaprbi.State}{ws:List RW}(h:Dk K CD CC CW gh H d dx nm ch wl cl s ws){j:Nat}{f:Form}{m:Vaprbi.Made}(hm:s.made[j]?=some (f,m)):
  ∃ (cs:List Addr) (c nl:Addr),H cl=some (.lst (cs.map V.ref))/\(cs.map V.ref)[j]?=some (V.ref c)/\Ask K CC CW H c nl wl m ws s.vars.length:=by
 obtain ⟨cs,c1,c2⟩:=h.crs;obtain ⟨c,h1,nl,_,_,_,h2⟩:=TC.bM c2 hm;exact ⟨cs,c,nl,c1,by rw[List.getElem?_map,h1];rfl,h2,h.wts,h.wlen,h.v12,h.wb,h.mok _ (List.mem_of_getElem? hm)⟩
inductive sR (K:PySem.W.Frag) (CD CC CW:Addr) (call:Int->List Int->Vaprbi.Call) (k:Nat) (us:List V) (H:Hp) (Q:VK) (E:XK):Prop
 | mk:∀ (gh d dx nm ch wl cl al:Addr) (s:Vaprbi.State) (ws:List RW) (j:Nat) (rest:List Int) (f:Form) (m:Vaprbi.Made),us=[.ref d,.ref al]->Dk K CD CC CW gh H d dx nm ch wl cl s ws->H al=some (.lst (bQ ((j:Int)::rest)))->rest.length=k->s.made[j]?=some (f,m)->(∀ (r:Addr) (H':Hp),H' r=some (.lst (bQ (VaprbiNeutral.encode (looked s (call j rest)))))->H r=none->aH [] H H'->Q (.ref r) H')->sR K CD CC CW call k us H Q E
def AJ (nl:Addr)(r:Int):(ciF nl r).lookup ("has_node" : Str)=none/\(ciF nl r).lookup ("count_kind" : Str)=none:=by
 refine ⟨?_,?_⟩<;>with_unfolding_all rfl
structure kL (K:PySem.W.Frag)(mg:Str->Option Value)(CD CC CW CG:Addr):Prop where
 T:rZ K mg CD
 ki:tG mg
 cm:rY K mg CC
 rat:KG K mg
 ls:mg "list" = none
 rg:mg "range" = none
 nt:GI mg "NOT_THERE" (-5)
 iz:GI mg "IS_ZERO" (-6)
 vg:OJ K mg CC CW
 fg:F8 K mg CC
 gg:xS K mg CC CW CG
 tf:∃ f fd,Def K mg "tell_fraction" pW ["fraction"] f fd
 vof:∃ f fd,Def K mg "values_of" gZ ["circuit","weights"] f fd
 wof:∃ f fd,Def K mg "whole_of" lP ["circuit","weights"] f fd
 fof:∃ f fd,Def K mg "flows_of" lJ ["circuit","values"] f fd
 pof:∃ f fd,Def K mg "parts_of" lN ["circuit","flows","kind","how_many"] f fd
 gof:∃ f fd,Def K mg "greatest_of" j3 ["circuit","weights"] f fd
 one:∃ f fd,Def K mg "weights_of_one" xG ["how_many"] f fd
 kno:∃ f fd,Def K mg "weights_known_true" uY ["weights","known"] f fd
 hn:∃ f fd,bN K CC "has_node" "Circuit.has_node" (sCi 1) ["self","number"] f fd
 ck:∃ f fd,bN K CC "count_kind" "Circuit.count_kind" (sCi 2) ["self","kind"] f fd
 hv:∃ f fd,bN K CD "has_variable" "Desk.has_variable" (sDk 4) ["self","number"] f fd
theorem VP:qT 3=isAdd:=by funext x;cases x<;>rfl
theorem VQ:qT 4=isMul:=by funext x;cases x<;>rfl
theorem LT (x:CNode):(cR x).map kV=bQ (nodeRow x):=by cases x<;>rfl
theorem NA:aO ["desk","numbers","circuit"] ["desk","numbers"] (aI (bO 2)):=by walk_at "s"
theorem PR {CD CC CW CG f:Addr}{fd:FuncData}(N:kL K mg CD CC CW CG)(F:Def K mg "answer_size" (bO 2) ["desk","numbers"] f fd):aN P w K mg base CX0 3 f fd ["desk","numbers"] (sR K CD CC CW (λi _=>.size i) 0):=by
 obtain ⟨g1,d1,G1⟩:=N.ck;have O1:aN P w K mg base CX0 1 g1 d1 ["self","kind"] (zL K CC):=LZ N.cm G1;refine F.fn.ok NA (λus H Q E h=>?_) (λcdv A outer s H us Q E hr h=>?_)
 ·walk_at "l"
 ·obtain ⟨gh,d,dx,nm,ch,wl,cl,al,st,ws,j,rest,f,m,rfl,hD,hal,hr0,hm,q⟩:=h;obtain ⟨cs,c,nl,hcl,hc,hA⟩:=hD.ask hm;obtain ⟨dc,hco⟩:=hA.ci.ob;obtain ⟨as,hnl,hnp⟩:=hA.ci.nds;have hlen:as.length=m.nodes.length:=bB hnp
  have e:looked st (.size (j:Int))={ value:=(m.nodes.length:Int),rest:=[kindCount m isAdd,kindCount m isMul,(m.root:Int)] }:=by
   simp only[looked];rw[d9 hm]
  rw[e] at q;obtain rfl:rest=[]:=List.length_eq_zero_iff.mp hr0;have hr1:=hr.mono (show 1<=2 by decide)
  refine ⟨_,aG (aQ (i:=2) NA.nd rfl (Or.inl rfl) (aK aL (aJ (pv 0) rfl) (aK aL (pv 1) aF (λ_ _=>rfl)) (λ_ _=>rfl)))
   (aE (aP (bD (a9 (b9 aU (by rfl) N.cm.len PySem.boot_len (a9 (aJ (pv 2) rfl) aC)) (a9 (bA (pv 2) N.cm.cl G1.me O1 hr1 G1.bd .nil aR (a9 (pgi N.ki.sum) aC)) (a9 (bA (pv 2) N.cm.cl G1.me O1 hr1 G1.bd .nil aR (a9 (pgi N.ki.prod) aC)) (a9 (aJ (pv 2) rfl) aC))))))),?_⟩
  refine ⟨_,rfl,d,CD,dx,_,_,rfl,hD.ob,N.T.cl,N.T.nC,bR _ _ _ _,_,rfl,al,_,0,_,rfl,rfl,SqL.of hal,rfl,cl,_,_,_,rfl,rfl,SqL.of hcl,aX hc,?_⟩;refine ⟨_,rfl,c,CC,dc,_,_,rfl,hco,N.cm.cl,N.cm.nN,eB _ _,nl,_,rfl,.inl (SqL.of hnl),?_⟩;refine ⟨_,rfl,c,dc,_,rfl,hco,(AJ _ _).2,c,nl,m.nodes,m.root,3,rfl,hA.ci,hA.ok.len,λH1 k1=>?_⟩;refine ⟨_,rfl,c,dc,_,rfl,k1 _ _ hco (by simp),(AJ _ _).2,c,nl,m.nodes,m.root,4,rfl,hA.ci.keep k1,hA.ok.len,λH2 k2=>?_⟩;refine ⟨_,rfl,c,CC,dc,_,_,rfl,(k1.trans k2) _ _ hco (by simp),N.cm.cl,N.cm.nR,oU _ _,by show 4<=sizeLine;decide,λr nr=>?_⟩;refine q r _ ?_ ((k1.trans k2).none nr (by simp)) ((k1.trans k2).trans (aH.laid nr));rw[aA,List.length_map,hlen,VP,VQ];rfl
theorem N8:aO ["desk","numbers","circuit"] ["desk","numbers"] (aI (bO 3)):=by walk_at "s"
theorem m3 {s:Vaprbi.State}{j:Nat}{k:Int}{f:Form}{m:Vaprbi.Made}(h:s.made[j]?=some (f,m))(g:Vaprbi.Made->Nat->Vaprbi.Answer):withNode s (j:Int) k g=if 0<=k/\k<m.nodes.length then g m k.toNat else Vaprbi.refused (-5):=by
 unfold withNode;rw[d9 h];unfold Vaprbg.index
 by_cases hk:0<=k/\k<(m.nodes.length:Int)
 ·rw[if_pos hk,if_pos hk]
 ·rw[if_neg hk,if_neg hk]
theorem PM {CD CC CW CG f:Addr}{fd:FuncData}(N:kL K mg CD CC CW CG)(F:Def K mg "answer_node" (bO 3) ["desk","numbers"] f fd):aN P w K mg base CX0 3 f fd ["desk","numbers"] (sR K CD CC CW (λi r=>.node i (r.getD 0 0)) 1):=by
 obtain ⟨g1,d1,G1⟩:=N.hn;have O1:aN P w K mg base CX0 1 g1 d1 ["self","number"] (jA K CC):=nI N.cm G1;refine F.fn.ok N8 (λus H Q E h=>?_) (λcdv A outer s H us Q E hr h=>?_)
 ·walk_at "l"
 ·obtain ⟨gh,d,dx,nm,ch,wl,cl,al,st,ws,j,rest,f,m,rfl,hD,hal,hr0,hm,q⟩:=h;obtain ⟨k,rfl⟩:∃ k,rest=[k]:=List.length_eq_one_iff.mp hr0;obtain ⟨cs,c,nl,hcl,hc,hA⟩:=hD.ask hm;obtain ⟨dc,hco⟩:=hA.ci.ob;obtain ⟨as,hnl,hnp⟩:=hA.ci.nds;have hlen:as.length=m.nodes.length:=bB hnp
  have e:looked st (.node (j:Int) k)=if 0<=k/\k<m.nodes.length then { value:=1,rest:=((m.nodes[k.toNat]?).map nodeRow).getD [] } else Vaprbi.refused (-5):=by
   show withNode st j k _=_;rw[m3 hm]
  have q:∀ (r:Addr) (H':Hp),H' r=some (.lst (bQ (VaprbiNeutral.encode (looked st (.node (j:Int) k)))))->H r=none->aH [] H H'->Q (.ref r) H':=q;rw[e] at q;have hr1:=hr.mono (show 1<=2 by decide)
  refine ⟨_,aG (aQ (i:=2) N8.nd rfl (Or.inl rfl) (aK aL (aJ (pv 0) rfl) (aK aL (pv 1) aF (λ_ _=>rfl)) (λ_ _=>rfl)))
   (aG (bC (gJ (cE (bA (pv 2) N.cm.cl G1.me O1 hr1 G1.bd .nil aR (a9 (aK aL (pv 1) aF (λ_ _=>rfl)) aC)))) (aE (aP (bD (a9 (pgi N.nt) aC)))) aV)
   (aE (aP (b7 qZ (bD (a9 aF aC)) (r9 jL (by rfl) N.ls tP (a9 (aK aL (aJ (pv 2) rfl) (aK aL (pv 1) aF (λ_ _=>rfl)) (λ_ _=>rfl)) aC)))))),?_⟩
  refine ⟨_,rfl,d,CD,dx,_,_,rfl,hD.ob,N.T.cl,N.T.nC,bR _ _ _ _,_,rfl,al,_,0,_,rfl,rfl,SqL.of hal,rfl,cl,_,_,_,rfl,rfl,SqL.of hcl,aX hc,?_⟩;refine ⟨_,rfl,c,dc,_,rfl,hco,(AJ _ _).1,_,rfl,al,_,1,_,rfl,rfl,SqL.of hal,rfl,c,nl,m.nodes,m.root,k,rfl,hA.ci,_,rfl,?_⟩
  by_cases hk:0<=k/\k<m.nodes.length
  ·rw[if_pos hk] at q;refine itF (by rw[decide_eq_true hk];decide) ?_
   obtain ⟨i,rfl⟩:∃ i:Nat,k=(i:Nat):=⟨k.toNat,by lia⟩
   have hi:i<m.nodes.length:=by lia
   obtain ⟨x,hx⟩:∃ x,m.nodes[i]?=some x:=⟨_,List.getElem?_eq_getElem hi⟩
   obtain ⟨y,hy,hky⟩:=TC.bM hnp hx;have hy':(as.map V.ref)[i]?=some (V.ref y):=by rw[List.getElem?_map,hy];rfl
   refine ⟨by show 1<=sizeLine;decide,λl1 n1=>?_⟩;have k1:aH [] H (upd H l1 (.lst [.int 1])):=aH.laid n1;refine ⟨_,rfl,c,CC,dc,_,_,rfl,k1 _ _ hco (by simp),N.cm.cl,N.cm.nN,eB _ _,_,rfl,al,_,1,_,rfl,rfl,SqL.of (k1 _ _ hal (by simp)),rfl,nl,_,_,_,rfl,rfl,SqL.of (k1 _ _ hnl (by simp)),aX hy',?_⟩;refine ⟨y,_,rfl,.inr (hky.keep0 k1).sq,λl2 n2=>?_⟩;have k2:aH [] H (upd (upd H l1 (.lst [.int 1])) l2 (.lst ((cR x).map kV))):=k1.trans (aH.laid n2);refine ⟨l1,l2,_,_,rfl,rfl,aH.laid (S:=[]) n2 _ _ aA (by simp),aA,?_,λr nr=>q r _ ?_ (k2.none nr (by simp)) (k2.trans (aH.laid nr))⟩
   ·rw[List.length_map]
    have:(cR x).length<=3:=by cases x<;>simp[cR]
    exact Nat.le_trans (Nat.add_le_add_left this 1) (show 1+3<=sizeLine by decide)
   ·rw[aA,LT];show _=some (HO.lst (bQ (1::((m.nodes[i]?).map nodeRow).getD [])));rw[hx];rfl
  ·rw[if_neg hk] at q;refine itT (by rw[decide_eq_false hk];rfl) ?_;exact ⟨by show 1<=sizeLine;decide,λr nr=>q r _ aA nr (aH.laid nr)⟩
theorem HH:aO ["desk","numbers","whole"] ["desk","numbers"] (aI (bO 6)):=by walk_at "s"
theorem uR {f:Frac}:1+(bQ (fracRow f)).length<=sizeLine:=by
 show 1+2<=sizeLine;decide
theorem MB {CD CC CW CG f:Addr}{fd:FuncData}(N:kL K mg CD CC CW CG)(F:Def K mg "answer_total" (bO 6) ["desk","numbers"] f fd):aN P w K mg base CX0 4 f fd ["desk","numbers"] (sR K CD CC CW (λi _=>.total i) 0):=by
 obtain ⟨g1,d1,G1⟩:=N.wof;obtain ⟨g2,d2,G2⟩:=N.tf;obtain ⟨g3,d3,G3⟩:=N.vof;have O1:aN P w K mg base CX0 3 g1 d1 ["circuit","weights"] (jB K CC CW):=nJ N.vg G3 G1;have O2:aN P w K mg base CX0 3 g2 d2 ["fraction"] fE:=fK N.ls N.rat G2;refine F.fn.ok HH (λus H Q E h=>?_) (λcdv A outer s H us Q E hr h=>?_)
 ·walk_at "l"
 ·obtain ⟨gh,d,dx,nm,ch,wl,cl,al,st,ws,j,rest,f,m,rfl,hD,hal,hr0,hm,q⟩:=h;obtain rfl:rest=[]:=List.length_eq_zero_iff.mp hr0;obtain ⟨cs,c,nl,hcl,hc,hA⟩:=hD.ask hm
  have e:looked st (.total (j:Int))=fracAnswer (frac (rv ws m.nodes m.root).1 (rv ws m.nodes m.root).2):=by
   simp only[looked];rw[d9 hm,← hD.spec,jD hA.hn hA.h12 hA.hw hA.ok]
  rw[e] at q
  refine ⟨_,aG (aQ (i:=2) HH.nd rfl (Or.inl rfl) (aS O1 hr (by rfl) G1.at_ G1.fn.kp G1.bd .nil aR (a9 (aK aL (aJ (pv 0) rfl) (aK aL (pv 1) aF (λ_ _=>rfl)) (λ_ _=>rfl)) (a9 (aJ (pv 0) rfl) aC))))
   (aE (aP (b7 qZ (bD (a9 aF aC)) (aS O2 hr (by rfl) G2.at_ G2.fn.kp G2.bd .nil aR (a9 (pv 2) aC))))),?_⟩
  refine ⟨_,rfl,d,CD,dx,_,_,rfl,hD.ob,N.T.cl,N.T.nC,bR _ _ _ _,_,rfl,al,_,0,_,rfl,rfl,SqL.of hal,rfl,cl,_,_,_,rfl,rfl,SqL.of hcl,aX hc,?_⟩;refine ⟨_,rfl,d,CD,dx,_,_,rfl,hD.ob,N.T.cl,N.T.nW,cW _ _ _ _,c,nl,wl,m,ws,_,rfl,hA,λt H1 ht k1=>?_⟩;refine ⟨by show 1<=sizeLine;decide,λl1 n1=>?_⟩;have kl:aH [] H1 (upd H1 l1 (.lst [.int 1])):=aH.laid n1;refine ⟨_,rfl,t,_,rfl,kl _ _ ht (by simp),uT hA.hn hA.h12 hA.hw hA.ok.wf hA.ok.len hA.ok.root,cC (rE hA.hn hA.h12 hA.hw hA.ok.wf hA.ok.len hA.ok.root) (by decide),λr2 H3 hr2 n2 k3=>?_⟩;have kk:=(k1.trans kl).trans k3;exact ⟨l1,r2,_,_,rfl,rfl,k3 _ _ aA (by simp),hr2,uR,λr nr=>q r _ aA (kk.none nr (by simp)) (kk.trans (aH.laid nr))⟩
theorem HI:aO ["desk","numbers","circuit"] ["desk","numbers"] (aI (bO 7)):=by walk_at "s"
theorem MD {CD CC CW CG f:Addr}{fd:FuncData}(N:kL K mg CD CC CW CG)(F:Def K mg "answer_value" (bO 7) ["desk","numbers"] f fd):aN P w K mg base CX0 4 f fd ["desk","numbers"] (sR K CD CC CW (λi r=>.value i (r.getD 0 0)) 1):=by
 obtain ⟨g1,d1,G1⟩:=N.hn;obtain ⟨g2,d2,G2⟩:=N.tf;obtain ⟨g3,d3,G3⟩:=N.vof;have O1:aN P w K mg base CX0 1 g1 d1 ["self","number"] (jA K CC):=nI N.cm G1;have O2:aN P w K mg base CX0 3 g2 d2 ["fraction"] fE:=fK N.ls N.rat G2;have O3:aN P w K mg base CX0 2 g3 d3 ["circuit","weights"] (eP K CC CW):=fZ N.vg G3;refine F.fn.ok HI (λus H Q E h=>?_) (λcdv A outer s H us Q E hr h=>?_)
 ·walk_at "l"
 ·obtain ⟨gh,d,dx,nm,ch,wl,cl,al,st,ws,j,rest,f,m,rfl,hD,hal,hr0,hm,q⟩:=h;obtain ⟨k,rfl⟩:∃ k,rest=[k]:=List.length_eq_one_iff.mp hr0;obtain ⟨cs,c,nl,hcl,hc,hA⟩:=hD.ask hm;obtain ⟨dc,hco⟩:=hA.ci.ob
  have e:looked st (.value (j:Int) k)=if 0<=k/\k<m.nodes.length then fracAnswer ((values (bT ws) m.nodes)[k.toNat]?.getD Frac.zero) else Vaprbi.refused (-5):=by
   simp only[looked];rw[m3 hm,hD.spec]
  have q:∀ (r:Addr) (H':Hp),H' r=some (.lst (bQ (VaprbiNeutral.encode (looked st (.value (j:Int) k)))))->H r=none->aH [] H H'->Q (.ref r) H':=q;rw[e] at q
  refine ⟨_,aG (aQ (i:=2) HI.nd rfl (Or.inl rfl) (aK aL (aJ (pv 0) rfl) (aK aL (pv 1) aF (λ_ _=>rfl)) (λ_ _=>rfl)))
   (aG (bC (gJ (cE (bA (pv 2) N.cm.cl G1.me O1 (hr.mono (by decide)) G1.bd .nil aR (a9 (aK aL (pv 1) aF (λ_ _=>rfl)) aC)))) (aE (aP (bD (a9 (pgi N.nt) aC)))) aV)
   (aE (aP (b7 qZ (bD (a9 aF aC)) (aS O2 hr (by rfl) G2.at_ G2.fn.kp G2.bd .nil aR (a9 (aK aL (aS O3 (hr.mono (by decide)) (by rfl) G3.at_ G3.fn.kp G3.bd .nil aR (a9 (pv 2) (a9 (aJ (pv 0) rfl) aC))) (aK aL (pv 1) aF (λ_ _=>rfl)) (λ_ _=>rfl)) aC)))))),?_⟩
  refine ⟨_,rfl,d,CD,dx,_,_,rfl,hD.ob,N.T.cl,N.T.nC,bR _ _ _ _,_,rfl,al,_,0,_,rfl,rfl,SqL.of hal,rfl,cl,_,_,_,rfl,rfl,SqL.of hcl,aX hc,?_⟩;refine ⟨_,rfl,c,dc,_,rfl,hco,(AJ _ _).1,_,rfl,al,_,1,_,rfl,rfl,SqL.of hal,rfl,c,nl,m.nodes,m.root,k,rfl,hA.ci,_,rfl,?_⟩
  by_cases hk:0<=k/\k<m.nodes.length
  ·rw[if_pos hk] at q;refine itF (by rw[decide_eq_true hk];decide) ?_
   obtain ⟨i,rfl⟩:∃ i:Nat,k=(i:Nat):=⟨k.toNat,by lia⟩
   have hi:i<m.nodes.length:=by lia
   rw[Int.toNat_natCast,CL hA.hn hA.h12 hA.hw hA.ok hi] at q;refine ⟨by show 1<=sizeLine;decide,λl1 n1=>?_⟩;have k1:aH [] H (upd H l1 (.lst [.int 1])):=aH.laid n1;refine ⟨_,rfl,_,rfl,d,CD,dx,_,_,rfl,k1 _ _ hD.ob (by simp),N.T.cl,N.T.nW,cW _ _ _ _,c,nl,wl,m,ws,_,rfl,hA.keep k1,λt H2 ht nt k2=>?_⟩;have k12:=k1.trans k2;obtain ⟨as,hl2,x,hx,hox⟩:=ht.get (i:=i) (by rw[show (dX ws m.nodes).length=_ from eM _ _];exact hi);refine ⟨_,rfl,al,_,1,_,rfl,rfl,SqL.of (k12 _ _ hal (by simp)),rfl,t,_,_,_,rfl,rfl,SqL.of hl2,aX hx,?_⟩;refine ⟨x,_,rfl,hox,uT hA.hn hA.h12 hA.hw hA.ok.wf hA.ok.len hi,cC (rE hA.hn hA.h12 hA.hw hA.ok.wf hA.ok.len hi) (by decide),λr2 H3 hr2 n2 k3=>?_⟩;have kk:=k12.trans k3;exact ⟨l1,r2,_,_,rfl,rfl,(k2.trans k3) _ _ aA (by simp),hr2,uR,λr nr=>q r _ aA (kk.none nr (by simp)) (kk.trans (aH.laid nr))⟩
  ·rw[if_neg hk] at q;refine itT (by rw[decide_eq_false hk];rfl) ?_;exact ⟨by show 1<=sizeLine;decide,λr nr=>q r _ aA nr (aH.laid nr)⟩
theorem EH:aO ["desk","numbers","circuit","flows"] ["desk","numbers"] (aI (bO 8)):=by walk_at "s"
theorem PD {CD CC CW CG f:Addr}{fd:FuncData}(N:kL K mg CD CC CW CG)(F:Def K mg "answer_flow" (bO 8) ["desk","numbers"] f fd):aN P w K mg base CX0 4 f fd ["desk","numbers"] (sR K CD CC CW (λi r=>.flow i (r.getD 0 0)) 1):=by
 obtain ⟨g1,d1,G1⟩:=N.hn;obtain ⟨g2,d2,G2⟩:=N.tf;obtain ⟨g3,d3,G3⟩:=N.vof;obtain ⟨g4,d4,G4⟩:=N.fof;have O1:aN P w K mg base CX0 1 g1 d1 ["self","number"] (jA K CC):=nI N.cm G1;have O2:aN P w K mg base CX0 3 g2 d2 ["fraction"] fE:=fK N.ls N.rat G2;have O3:aN P w K mg base CX0 2 g3 d3 ["circuit","weights"] (eP K CC CW):=fZ N.vg G3;have O4:aN P w K mg base CX0 3 g4 d4 ["circuit","values"] (j9 K CC CW):=nG N.fg G4;refine F.fn.ok EH (λus H Q E h=>?_) (λcdv A outer s H us Q E hr h=>?_)
 ·walk_at "l"
 ·obtain ⟨gh,d,dx,nm,ch,wl,cl,al,st,ws,j,rest,f,m,rfl,hD,hal,hr0,hm,q⟩:=h;obtain ⟨k,rfl⟩:∃ k,rest=[k]:=List.length_eq_one_iff.mp hr0;obtain ⟨cs,c,nl,hcl,hc,hA⟩:=hD.ask hm;obtain ⟨dc,hco⟩:=hA.ci.ob
  have e:looked st (.flow (j:Int) k)=if 0<=k/\k<m.nodes.length then fracAnswer ((flows (bT ws) m)[k.toNat]?.getD Frac.zero) else Vaprbi.refused (-5):=by
   simp only[looked];rw[m3 hm,hD.spec]
  have q:∀ (r:Addr) (H':Hp),H' r=some (.lst (bQ (VaprbiNeutral.encode (looked st (.flow (j:Int) k)))))->H r=none->aH [] H H'->Q (.ref r) H':=q;rw[e] at q
  refine ⟨_,aG (aQ (i:=2) EH.nd rfl (Or.inl rfl) (aK aL (aJ (pv 0) rfl) (aK aL (pv 1) aF (λ_ _=>rfl)) (λ_ _=>rfl)))
   (aG (bC (gJ (cE (bA (pv 2) N.cm.cl G1.me O1 (hr.mono (by decide)) G1.bd .nil aR (a9 (aK aL (pv 1) aF (λ_ _=>rfl)) aC)))) (aE (aP (bD (a9 (pgi N.nt) aC)))) aV)
   (aG (aQ (i:=3) EH.nd rfl (Or.inl rfl) (aS O4 hr (by rfl) G4.at_ G4.fn.kp G4.bd .nil aR (a9 (pv 2) (a9 (aS O3 (hr.mono (by decide)) (by rfl) G3.at_ G3.fn.kp G3.bd .nil aR (a9 (pv 2) (a9 (aJ (pv 0) rfl) aC))) aC))))
   (aE (aP (b7 qZ (bD (a9 aF aC)) (aS O2 hr (by rfl) G2.at_ G2.fn.kp G2.bd .nil aR (a9 (aK aL (pv 3) (aK aL (pv 1) aF (λ_ _=>rfl)) (λ_ _=>rfl)) aC))))))),?_⟩
  refine ⟨_,rfl,d,CD,dx,_,_,rfl,hD.ob,N.T.cl,N.T.nC,bR _ _ _ _,_,rfl,al,_,0,_,rfl,rfl,SqL.of hal,rfl,cl,_,_,_,rfl,rfl,SqL.of hcl,aX hc,?_⟩;refine ⟨_,rfl,c,dc,_,rfl,hco,(AJ _ _).1,_,rfl,al,_,1,_,rfl,rfl,SqL.of hal,rfl,c,nl,m.nodes,m.root,k,rfl,hA.ci,_,rfl,?_⟩
  by_cases hk:0<=k/\k<m.nodes.length
  ·rw[if_pos hk] at q;refine itF (by rw[decide_eq_true hk];decide) ?_
   obtain ⟨i,rfl⟩:∃ i:Nat,k=(i:Nat):=⟨k.toNat,by lia⟩
   have hi:i<m.nodes.length:=by lia
   rw[Int.toNat_natCast,FR hA.hn hA.h12 hA.hw hA.ok hi] at q;have fl:=AS hA.hn hA.h12 hA.hw hA.ok hi;refine ⟨_,rfl,_,rfl,_,rfl,d,CD,dx,_,_,rfl,hD.ob,N.T.cl,N.T.nW,cW _ _ _ _,c,nl,wl,m,ws,_,rfl,hA,λt H2 ht nt k2=>?_⟩;refine ⟨c,nl,wl,t,m,ws,_,rfl,hA.keep k2,ht,λt3 H3 ht3 nt3 k3=>?_⟩;have k23:=k2.trans k3;refine ⟨by show 1<=sizeLine;decide,λl1 n1=>?_⟩;have k4:aH [] H3 (upd H3 l1 (.lst [.int 1])):=aH.laid n1;have FL:=iQ hA.hn hA.hw.ok hA.ok.wf hA.ok.root;obtain ⟨as,hl2,x,hx,hox⟩:=(ht3.keep k4).get (i:=i) (by rw[FL.len];exact hi);refine ⟨_,rfl,_,rfl,al,_,1,_,rfl,rfl,SqL.of ((k23.trans k4) _ _ hal (by simp)),rfl,t3,_,_,_,rfl,rfl,SqL.of hl2,aX hx,?_⟩;refine ⟨x,_,rfl,hox,fl.2.2,cC fl.2.1 (by decide),λr2 H5 hr2 n2 k5=>?_⟩;have kk:=(k23.trans k4).trans k5;exact ⟨l1,r2,_,_,rfl,rfl,k5 _ _ aA (by simp),hr2,uR,λr nr=>q r _ aA (kk.none nr (by simp)) (kk.trans (aH.laid nr))⟩
  ·rw[if_neg hk] at q;refine itT (by rw[decide_eq_false hk];rfl) ?_;exact ⟨by show 1<=sizeLine;decide,λr nr=>q r _ aA nr (aH.laid nr)⟩
theorem N7:aO ["desk","numbers","greatest"] ["desk","numbers"] (aI (bO 12)):=by walk_at "s"
theorem PL {CD CC CW CG f:Addr}{fd:FuncData}(N:kL K mg CD CC CW CG)(F:Def K mg "answer_most" (bO 12) ["desk","numbers"] f fd):aN P w K mg base CX0 6 f fd ["desk","numbers"] (sR K CD CC CW (λi _=>.most i) 0):=by
 obtain ⟨g1,d1,G1⟩:=N.gof;obtain ⟨g2,d2,G2⟩:=N.tf;obtain ⟨fG,gd,G⟩:=N.gg.gc;have O1:aN P w K mg base CX0 5 g1 d1 ["circuit","weights"] (oB K CC CW CG):=BE N.gg G1;have O2:aN P w K mg base CX0 3 g2 d2 ["fraction"] fE:=fK N.ls N.rat G2;refine F.fn.ok N7 (λus H Q E h=>?_) (λcdv A outer s H us Q E hr h=>?_)
 ·walk_at "l"
 ·obtain ⟨gh,d,dx,nm,ch,wl,cl,al,st,ws,j,rest,f,m,rfl,hD,hal,hr0,hm,q⟩:=h;obtain rfl:rest=[]:=List.length_eq_zero_iff.mp hr0;obtain ⟨cs,c,nl,hcl,hc,hA⟩:=hD.ask hm;have mz:=J0 hA.hn hA.h12 hA.hw hA.ok;have me:=GE hA.hn hA.h12 hA.hw hA.ok
  have e:looked st (.most (j:Int))=if (gv ws m.nodes m.root).1=0 then Vaprbi.refused (-6) else { value:=((gv ws m.nodes m.root).2.2:Int),rest:=fracRow (frac (gv ws m.nodes m.root).1 (gv ws m.nodes m.root).2.1) }:=by
   simp only[looked];rw[d9 hm,← hD.spec]
   by_cases z:(gv ws m.nodes m.root).1=0
   ·rw[if_pos z];show (if (most (bT ws) m).1.num=0 then _ else _)=_;rw[if_pos (mz.mpr z)]
   ·rw[if_neg z];show (if (most (bT ws) m).1.num=0 then _ else _)=_;rw[if_neg (λy=>z (mz.mp y)),me]
  rw[e] at q
  refine ⟨_,aG (aQ (i:=2) N7.nd rfl (Or.inl rfl) (aS O1 hr (by rfl) G1.at_ G1.fn.kp G1.bd .nil aR (a9 (aK aL (aJ (pv 0) rfl) (aK aL (pv 1) aF (λ_ _=>rfl)) (λ_ _=>rfl)) (a9 (aJ (pv 0) rfl) aC))))
   (aG (bC (aT bV (aJ (pv 2) rfl) aF (aY _)) (aE (aP (bD (a9 (pgi N.iz) aC)))) aV)
   (aE (aP (b7 qZ (bD (a9 (aJ (pv 2) rfl) aC)) (aS O2 (hr.mono (by decide)) (by rfl) G2.at_ G2.fn.kp G2.bd .nil aR (a9 (cA (a9 (aJ (pv 2) rfl) (a9 (aJ (pv 2) rfl) aC))) aC)))))),?_⟩
  refine ⟨_,rfl,d,CD,dx,_,_,rfl,hD.ob,N.T.cl,N.T.nC,bR _ _ _ _,_,rfl,al,_,0,_,rfl,rfl,SqL.of hal,rfl,cl,_,_,_,rfl,rfl,SqL.of hcl,aX hc,?_⟩;refine ⟨_,rfl,d,CD,dx,_,_,rfl,hD.ob,N.T.cl,N.T.nW,cW _ _ _ _,c,nl,wl,m,ws,_,rfl,hA,λt H1 ht k1=>?_⟩;obtain ⟨dt,ho⟩:=id ht;refine ⟨_,rfl,t,CG,dt,_,_,rfl,ho,G.cl,G.nT,jP _ _ _,rfl,_,rfl,?_⟩
  by_cases z:(gv ws m.nodes m.root).1=0
  ·rw[if_pos z] at q;refine itT (by rw[z];decide) ?_;exact ⟨by show 1<=sizeLine;decide,λr nr=>q r _ aA (k1.none nr (by simp)) (k1.trans (aH.laid nr))⟩
  ·rw[if_neg z] at q;refine itF (by rw[cV];simp only[decide_eq_true_eq];lia) ?_;refine ⟨_,rfl,t,CG,dt,_,_,rfl,ho,G.cl,G.nW,pC _ _ _,by show 1<=sizeLine;decide,λl1 n1=>?_⟩;have k2:aH [] H1 (upd H1 l1 (.lst [.int ((gv ws m.nodes m.root).2.2:Nat)])):=aH.laid n1;have ho2:=k2 _ _ ho (by simp);refine ⟨_,rfl,t,CG,dt,_,_,rfl,ho2,G.cl,G.nT,jP _ _ _,_,rfl,t,CG,dt,_,_,rfl,ho2,G.cl,G.nB,yA _ _ _,by show 2<=sizeLine;decide,λp np=>?_⟩;have k3:aH [] _ (upd (upd H1 l1 (.lst [.int ((gv ws m.nodes m.root).2.2:Nat)])) p (gS ((gv ws m.nodes m.root).1,(gv ws m.nodes m.root).2.1))):=aH.laid np;refine ⟨p,((gv ws m.nodes m.root).1,(gv ws m.nodes m.root).2.1),rfl,aA,LH hA.hn hA.h12 hA.hw hA.ok.wf hA.ok.len hA.ok.root,cC (DL hA.hn hA.h12 hA.hw hA.ok.wf hA.ok.len hA.ok.root) (by decide),λr2 H5 hr2 n2 k5=>?_⟩;have kk:=((k1.trans k2).trans k3).trans k5;exact ⟨l1,r2,_,_,rfl,rfl,(k3.trans k5) _ _ aA (by simp),hr2,uR,λr nr=>q r _ aA (kk.none nr (by simp)) (kk.trans (aH.laid nr))⟩
theorem NC:aO ["desk","numbers","whole"] ["desk","numbers"] (aI (bO 13)):=by walk_at "s"
theorem PX {CD CC CW CG f:Addr}{fd:FuncData}(N:kL K mg CD CC CW CG)(F:Def K mg "answer_ways" (bO 13) ["desk","numbers"] f fd):aN P w K mg base CX0 4 f fd ["desk","numbers"] (sR K CD CC CW (λi _=>.ways i) 0):=by
 obtain ⟨g1,d1,G1⟩:=N.wof;obtain ⟨g2,d2,G2⟩:=N.one;obtain ⟨g3,d3,G3⟩:=N.vof;obtain ⟨fW,wd,WC⟩:=N.vg.wc;have O1:aN P w K mg base CX0 3 g1 d1 ["circuit","weights"] (jB K CC CW):=nJ N.vg G3 G1;have O2:aN P w K mg base CX0 3 g2 d2 ["how_many"] (ER CW):=PN N.rg WC G2;refine F.fn.ok NC (λus H Q E h=>?_) (λcdv A outer s H us Q E hr h=>?_)
 ·walk_at "l"
 ·obtain ⟨gh,d,dx,nm,ch,wl,cl,al,st,ws,j,rest,f,m,rfl,hD,hal,hr0,hm,q⟩:=h;obtain rfl:rest=[]:=List.length_eq_zero_iff.mp hr0;obtain ⟨cs,c,nl,hcl,hc,hA⟩:=hD.ask hm
  have e:looked st (.ways (j:Int))={ value:=((rv (fI st.vars.length) m.nodes m.root).1:Int) }:=by
   simp only[looked];rw[d9 hm,QZ hA.h12 hA.ok]
  rw[e] at q;obtain ⟨_,hw1,hl1⟩:=BI st.vars
  refine ⟨_,aG (aQ (i:=2) NC.nd rfl (Or.inl rfl) (aS O1 hr (by rfl) G1.at_ G1.fn.kp G1.bd .nil aR (a9 (aK aL (aJ (pv 0) rfl) (aK aL (pv 1) aF (λ_ _=>rfl)) (λ_ _=>rfl)) (a9 (aS O2 hr (by rfl) G2.at_ G2.fn.kp G2.bd .nil aR (a9 (b9 aU (by rfl) N.cm.len PySem.boot_len (a9 (aJ (pv 0) rfl) aC)) aC)) aC))))
   (aE (aP (bD (a9 (aK aW (pv 2) aF (λ_ _=>rfl)) aC)))),?_⟩
  refine ⟨_,rfl,d,CD,dx,_,_,rfl,hD.ob,N.T.cl,N.T.nC,bR _ _ _ _,_,rfl,al,_,0,_,rfl,rfl,SqL.of hal,rfl,cl,_,_,_,rfl,rfl,SqL.of hcl,aX hc,?_⟩;refine ⟨_,rfl,d,CD,dx,_,_,rfl,hD.ob,N.T.cl,N.T.nN,hJ _ _ _ _,nm,_,rfl,.inl (SqL.of hD.nms),?_⟩;have nl2:(nmV (st.vars.map (·.name))).length=st.vars.length:=by unfold nmV;rw[List.length_map,List.length_map]
  rw[nl2];refine ⟨st.vars.length,rfl,hD.v12,λt H1 ht nt k1=>?_⟩;have hA1:=hA.keep k1;refine ⟨c,nl,t,m,fI st.vars.length,st.vars.length,rfl,⟨hA1.ci,ht,hl1,hA.h12,hw1,hA.ok⟩,λt2 H2 ht2 k2=>?_⟩;have kk:=k1.trans k2;exact ⟨_,rfl,t2,_,0,_,rfl,rfl,SqT.of ht2,rfl,by show 1<=sizeLine;decide,λr nr=>q r _ aA (kk.none nr (by simp)) (kk.trans (aH.laid nr))⟩
theorem kC:aO ["desk","numbers","circuit","whole","known"] ["desk","numbers"] (aI (bO 11)):=by walk_at "s"
theorem nF (vs:List Var):(nmV (vs.map (·.name))).length=vs.length:=by unfold nmV;rw[List.length_map,List.length_map]
theorem iS (k:Int)(n:Nat):Vaprbg.index k n=if 0<=k/\k<(n:Int) then some k.toNat else none:=rfl
theorem BG {CD CC CW CG f:Addr}{fd:FuncData}(N:kL K mg CD CC CW CG)(F:Def K mg "answer_together" (bO 11) ["desk","numbers"] f fd):aN P w K mg base CX0 4 f fd ["desk","numbers"] (sR K CD CC CW (λi r=>.together i (r.getD 0 0) (r.getD 1 0)) 2):=by
 obtain ⟨g1,d1,G1⟩:=N.wof;obtain ⟨g2,d2,G2⟩:=N.tf;obtain ⟨g3,d3,G3⟩:=N.vof;obtain ⟨g4,d4,G4⟩:=N.hv;obtain ⟨g5,d5,G5⟩:=N.kno;obtain ⟨fW,wd,WC⟩:=N.vg.wc;have O1:aN P w K mg base CX0 3 g1 d1 ["circuit","weights"] (jB K CC CW):=nJ N.vg G3 G1;have O2:aN P w K mg base CX0 3 g2 d2 ["fraction"] fE:=fK N.ls N.rat G2;have O4:aN P w K mg base CX0 1 g4 d4 ["self","number"] (zP CD):=GH N.T G4;have O5:aN P w K mg base CX0 3 g5 d5 ["weights","known"] (zQ K CW):=M4 N.ls WC G5;refine F.fn.ok kC (λus H Q E h=>?_) (λcdv A outer s H us Q E hr h=>?_)
 ·walk_at "l"
 ·obtain ⟨gh,d,dx,nm,ch,wl,cl,al,st,ws,j,rest,f,m,rfl,hD,hal,hr0,hm,q⟩:=h
  obtain ⟨u,v,rfl⟩:∃ u v,rest=[u,v]:=by
   match rest,hr0 with
   | [u,v],_=>exact ⟨u,v,rfl⟩
  obtain ⟨cs,c,nl,hcl,hc,hA⟩:=hD.ask hm;have q:∀ (r:Addr) (H':Hp),H' r=some (.lst (bQ (VaprbiNeutral.encode (looked st (.together (j:Int) u v)))))->H r=none->aH [] H H'->Q (.ref r) H':=q
  have e:looked st (.together (j:Int) u v)=(match Vaprbg.index u st.vars.length,Vaprbg.index v st.vars.length with
   | some u,some v=>togetherAnswer st m u v
   | _,_=>Vaprbi.refused (-5)):=by
   simp only[looked];rw[d9 hm];cases Vaprbg.index u st.vars.length<;>cases Vaprbg.index v st.vars.length<;>rfl
  rw[e,iS,iS] at q;have hr1:=hr.mono (show 1<=3 by decide)
  refine ⟨_,aG (aQ (i:=2) kC.nd rfl (Or.inl rfl) (aK aL (aJ (pv 0) rfl) (aK aL (pv 1) aF (λ_ _=>rfl)) (λ_ _=>rfl)))
   (aG (bC (PW.pt (kO (gJ (cE (bA (pv 0) N.T.cl G4.me O4 hr1 G4.bd .nil aR (a9 (aK aL (pv 1) aF (λ_ _=>rfl)) aC)))) (iJ (gJ (cE (bA (pv 0) N.T.cl G4.me O4 hr1 G4.bd .nil aR (a9 (aK aL (pv 1) aF (λ_ _=>rfl)) aC))))))) (aE (aP (bD (a9 (pgi N.nt) aC)))) aV)
   (aG (aQ (i:=3) kC.nd rfl (Or.inl rfl) (aS O1 hr (by rfl) G1.at_ G1.fn.kp G1.bd .nil aR (a9 (pv 2) (a9 (aJ (pv 0) rfl) aC))))
   (aG (bC (aT bV (aK aW (pv 3) aF (λ_ _=>rfl)) aF (aY _)) (aE (aP (bD (a9 (pgi N.iz) aC)))) aV)
   (aG (aQ (i:=4) kC.nd rfl (Or.inl rfl) (aS O1 hr (by rfl) G1.at_ G1.fn.kp G1.bd .nil aR (a9 (pv 2) (a9 (aS O5 hr (by rfl) G5.at_ G5.fn.kp G5.bd .nil aR (a9 (aJ (pv 0) rfl) (a9 (pP t5 (pv 1) (jW aF) Q5) aC))) aC))))
   (aE (aP (b7 qZ (bD (a9 aF aC)) (aS O2 hr (by rfl) G2.at_ G2.fn.kp G2.bd .nil aR (a9 (cA (a9 (aK aW (pv 4) aF (λ_ _=>rfl)) (a9 (aK aW (pv 3) aF (λ_ _=>rfl)) aC))) aC))))))))),?_⟩
  refine ⟨_,rfl,d,CD,dx,_,_,rfl,hD.ob,N.T.cl,N.T.nC,bR _ _ _ _,_,rfl,al,_,0,_,rfl,rfl,SqL.of hal,rfl,cl,_,_,_,rfl,rfl,SqL.of hcl,aX hc,?_⟩;refine ⟨_,rfl,d,dx,_,rfl,hD.ob,(tS _ _ _ _).2.2.2,_,rfl,al,_,1,_,rfl,rfl,SqL.of hal,rfl,d,dx,nm,ch,wl,cl,u,_,rfl,hD.ob,hD.nms,_,rfl,?_⟩;rw[nF]
  by_cases hu:0<=u/\u<(st.vars.length:Int)
  ·rw[if_pos hu] at q;refine itF (by rw[decide_eq_true hu];decide) ?_;refine ⟨_,rfl,d,dx,_,rfl,hD.ob,(tS _ _ _ _).2.2.2,_,rfl,al,_,2,_,rfl,rfl,SqL.of hal,rfl,d,dx,nm,ch,wl,cl,v,_,rfl,hD.ob,hD.nms,_,rfl,?_⟩;rw[nF]
   by_cases hv:0<=v/\v<(st.vars.length:Int)
   ·rw[if_pos hv] at q;refine itF (by rw[decide_eq_true hv];decide) ?_
    obtain ⟨u,rfl⟩:∃ i:Nat,u=(i:Nat):=⟨u.toNat,by lia⟩
    obtain ⟨v,rfl⟩:∃ i:Nat,v=(i:Nat):=⟨v.toNat,by lia⟩
    have hu':u<st.vars.length:=by lia
    have hv':v<st.vars.length:=by lia
    have q:∀ (r:Addr) (H':Hp),H' r=some (.lst (bQ (VaprbiNeutral.encode (togetherAnswer st m u v))))->H r=none->aH [] H H'->Q (.ref r) H':=q;have tz:=vP hA.hn hA.h12 hA.hw hA.ok;rw[hD.spec] at tz;refine ⟨_,rfl,_,rfl,d,CD,dx,_,_,rfl,hD.ob,N.T.cl,N.T.nW,cW _ _ _ _,c,nl,wl,m,ws,_,rfl,hA,λt H1 ht k1=>?_⟩;refine ⟨_,rfl,t,_,0,_,rfl,rfl,SqT.of ht,rfl,rfl,_,rfl,?_⟩
    by_cases z:(rv ws m.nodes m.root).1=0
    ·have e2:togetherAnswer st m u v=Vaprbi.refused (-6):=by
      unfold togetherAnswer;exact if_pos (tz.mpr z)
     rw[e2] at q;refine itT (by rw[z];decide) ?_;exact ⟨by show 1<=sizeLine;decide,λr nr=>q r _ aA (k1.none nr (by simp)) (k1.trans (aH.laid nr))⟩
    ·have e2:togetherAnswer st m u v=fracAnswer (frac (rv ((ws.set u (bW (ws.getD u rw0))).set v (bW (ws.getD v rw0))) m.nodes m.root).1 (rv ws m.nodes m.root).1):=by
      unfold togetherAnswer
      have:=CA hA.hn hA.h12 hA.hw hA.ok hu' hv' z
      rw[hD.spec] at this;rw[← this];exact if_neg λy=>z (tz.mp y)
     rw[e2] at q;refine itF (by rw[cV];simp only[decide_eq_true_eq];lia) ?_;have hal1:=k1 _ _ hal (by simp);refine ⟨_,rfl,_,rfl,d,CD,dx,_,_,rfl,k1 _ _ hD.ob (by simp),N.T.cl,N.T.nW,cW _ _ _ _,_,rfl,_,rfl,al,_,rfl,SqL.of hal1,λp1 n1=>?_⟩;have k2:aH [] H1 (upd H1 p1 (.lst (sP (bQ [(j:Int),(u:Int),(v:Int)]) (some 1) none))):=aH.laid n1;have hA2:=hA.keep (k1.trans k2);refine ⟨wl,p1,ws,[u,v],rfl,hA2.ws_,SqL.of (aA.trans rfl),?_,λt3 H3 ht3 nt3 k3=>?_⟩
     ·intro k hk
      have:k=u∨k=v:=by simpa using hk
      rw[hA.hn]
      rcases this with e|e<;>(rw[e];assumption)
     have hA3:=hA2.keep k3;have kw:gR ws [u,v]=(ws.set u (bW (ws.getD u rw0))).set v (bW (ws.getD v rw0)):=rfl;rw[kw] at ht3;refine ⟨c,nl,t3,m,_,st.vars.length,rfl,⟨hA3.ci,ht3,by rw[List.length_set,List.length_set];exact hA.hn,hA.h12,(hA.hw.set (t8 (qM hA.hw u))).set (t8 (qM hA.hw v)),hA.ok⟩,λt4 H4 ht4 k4=>?_⟩;refine ⟨by show 1<=sizeLine;decide,λl1 n5=>?_⟩;have k5:aH [] H4 (upd H4 l1 (.lst [.int 1])):=aH.laid n5;have kt:=(((k2.trans k3).trans k4).trans k5) _ _ ht (by simp);refine ⟨_,rfl,t4,_,0,_,rfl,rfl,SqT.of (k5 _ _ ht4 (by simp)),rfl,_,rfl,t,_,0,_,rfl,rfl,SqT.of kt,rfl,by show 2<=sizeLine;decide,λp6 n6=>?_⟩;refine ⟨p6,((rv ((ws.set u (bW (ws.getD u rw0))).set v (bW (ws.getD v rw0))) m.nodes m.root).1,(rv ws m.nodes m.root).1),rfl,aA,Nat.pos_of_ne_zero z,cC (rF hA.hn hA.h12 hA.hw hA.ok.wf hA.ok.len hA.ok.root) (by decide),λr2 H7 hr2 n7 k7=>?_⟩;have k6:aH [] _ (upd (upd H4 l1 (.lst [.int 1])) p6 (gS ((rv ((ws.set u (bW (ws.getD u rw0))).set v (bW (ws.getD v rw0))) m.nodes m.root).1,(rv ws m.nodes m.root).1))):=aH.laid n6;have kk:=(((((k1.trans k2).trans k3).trans k4).trans k5).trans k6).trans k7;exact ⟨l1,r2,_,_,rfl,rfl,(k6.trans k7) _ _ aA (by simp),hr2,uR,λr nr=>q r _ aA (kk.none nr (by simp)) (kk.trans (aH.laid nr))⟩
   ·rw[if_neg hv] at q;refine itT (by rw[decide_eq_false hv];rfl) ?_;exact ⟨by show 1<=sizeLine;decide,λr nr=>q r _ aA nr (aH.laid nr)⟩
  ·rw[if_neg hu] at q;refine itT (by rw[decide_eq_false hu];rfl) ?_;refine itT rfl ?_;exact ⟨by show 1<=sizeLine;decide,λr nr=>q r _ aA nr (aH.laid nr)⟩
theorem gC:aO ["desk","numbers","circuit","how_many","flows","by_yes","by_no","answer","variable"] ["desk","numbers"] (aI (bO 9)):=by walk_at "s"
theorem iC (a b:List Int):bQ (a++b)=bQ a++bQ b:=List.map_append ..
def BK (fl:List NN)(c:Circuit)(v:Nat):List Int:=fracRow (frac (cS fl c (.yes v)).1 (cS fl c (.yes v)).2)++fracRow (frac (cS fl c (.no v)).1 (cS fl c (.no v)).2)
theorem cU.keepA {H H':Hp}{vl an:Addr}{vals:List NN}{xs:List V}(h:cU H vl vals)(ne:vl≠an)(ha:H an=some (.lst xs))(k:aH [an] H H'):cU H' vl vals:=h.keepL ne ha k
theorem OD {H:Hp}{vl an:Addr}{vals:List NN}(h:cU H vl vals)(n:H an=none):vl≠an:=by
 obtain ⟨as,e,_⟩:=h;exact aD e n
theorem J8 {CD CC CW CG f:Addr}{fd:FuncData}(N:kL K mg CD CC CW CG)(F:Def K mg "answer_parts" (bO 9) ["desk","numbers"] f fd):aN P w K mg base CX0 4 f fd ["desk","numbers"] (sR K CD CC CW (λi _=>.parts i) 0):=by
 obtain ⟨g1,d1,G1⟩:=N.pof;obtain ⟨g2,d2,G2⟩:=N.tf;obtain ⟨g3,d3,G3⟩:=N.vof;obtain ⟨g4,d4,G4⟩:=N.fof;have O1:aN P w K mg base CX0 1 g1 d1 ["circuit","flows","kind","how_many"] (mL K CC CW):=uI N.fg G1;have O2:aN P w K mg base CX0 3 g2 d2 ["fraction"] fE:=fK N.ls N.rat G2;have O3:aN P w K mg base CX0 2 g3 d3 ["circuit","weights"] (eP K CC CW):=fZ N.vg G3;have O4:aN P w K mg base CX0 3 g4 d4 ["circuit","values"] (j9 K CC CW):=nG N.fg G4;refine F.fn.ok gC (λus H Q E h=>?_) (λcdv A outer s H us Q E hr h=>?_)
 ·walk_at "l"
 ·obtain ⟨gh,d,dx,nm,ch,wl,cl,al,st,ws,j,rest,f,m,rfl,hD,hal,hr0,hm,q⟩:=h;obtain rfl:rest=[]:=List.length_eq_zero_iff.mp hr0;obtain ⟨cs,c,nl,hcl,hc,hA⟩:=hD.ask hm;have h12:=hA.h12;generalize hn:st.vars.length=n at hA h12
  have e:looked st (.parts (j:Int))={ value:=(n:Int),rest:=(List.range n).flatMap (BK (bU ws m) m.nodes) }:=by
   simp only[looked];rw[d9 hm,← hD.spec,hn];congr 2;funext v;show fracRow (flowOf (bT ws) m (.yes v))++fracRow (flowOf (bT ws) m (.no v))=_;rw[(mE hA.hn h12 hA.hw hA.ok (.yes v)).1,(mE hA.hn h12 hA.hw hA.ok (.no v)).1];rfl
  rw[e] at q
  refine ⟨_,aG (aQ (i:=2) gC.nd rfl (Or.inl rfl) (aK aL (aJ (pv 0) rfl) (aK aL (pv 1) aF (λ_ _=>rfl)) (λ_ _=>rfl)))
   (aG (aQ (i:=3) gC.nd rfl (Or.inl rfl) (b9 aU (by rfl) N.cm.len PySem.boot_len (a9 (aJ (pv 0) rfl) aC)))
   (aG (aQ (i:=4) gC.nd rfl (Or.inl rfl) (aS O4 hr (by rfl) G4.at_ G4.fn.kp G4.bd .nil aR (a9 (pv 2) (a9 (aS O3 (hr.mono (by decide)) (by rfl) G3.at_ G3.fn.kp G3.bd .nil aR (a9 (pv 2) (a9 (aJ (pv 0) rfl) aC))) aC))))
   (aG (aQ (i:=5) gC.nd rfl (Or.inl rfl) (aS O1 (hr.mono (by decide)) (by rfl) G1.at_ G1.fn.kp G1.bd .nil aR (a9 (pv 2) (a9 (pv 4) (a9 (pgi N.ki.yes) (a9 (pv 3) aC))))))
   (aG (aQ (i:=6) gC.nd rfl (Or.inl rfl) (aS O1 (hr.mono (by decide)) (by rfl) G1.at_ G1.fn.kp G1.bd .nil aR (a9 (pv 2) (a9 (pv 4) (a9 (pgi N.ki.no) (a9 (pv 3) aC))))))
   (aG (aQ (i:=7) gC.nd rfl (Or.inl rfl) (bD (a9 (pv 3) aC)))
   (aM (jX PassesOwn.never rfl (mF rfl N.rg (a9 (pv 3) aC)) (dQ (i:=8) gC.nd rfl (Or.inl rfl))
    (aG (bE (iB PySem.F.plainAttrs_list PySem.F.slot_list_extend PySem.F.type_list_extend mC (pv 7) (a9 (aS O2 hr (by rfl) G2.at_ G2.fn.kp G2.bd .nil aR (a9 (aK aL (pv 5) (pv 8) (λ_ _=>rfl)) aC)) aC)))
    (aE (bE (iB PySem.F.plainAttrs_list PySem.F.slot_list_extend PySem.F.type_list_extend mC (pv 7) (a9 (aS O2 hr (by rfl) G2.at_ G2.fn.kp G2.bd .nil aR (a9 (aK aL (pv 6) (pv 8) (λ_ _=>rfl)) aC)) aC))))))
   (aE (aP (pv 7))))))))),?_⟩
  refine ⟨_,rfl,d,CD,dx,_,_,rfl,hD.ob,N.T.cl,N.T.nC,bR _ _ _ _,_,rfl,al,_,0,_,rfl,rfl,SqL.of hal,rfl,cl,_,_,_,rfl,rfl,SqL.of hcl,aX hc,?_⟩;refine ⟨_,rfl,d,CD,dx,_,_,rfl,hD.ob,N.T.cl,N.T.nN,hJ _ _ _ _,nm,_,rfl,.inl (SqL.of hD.nms),?_⟩;rw[nF,hn];refine ⟨_,rfl,_,rfl,_,rfl,d,CD,dx,_,_,rfl,hD.ob,N.T.cl,N.T.nW,cW _ _ _ _,c,nl,wl,m,ws,n,rfl,hA,λt1 H1 ht1 nt1 k1=>?_⟩;refine ⟨c,nl,wl,t1,m,ws,n,rfl,hA.keep k1,ht1,λt2 H2 ht2 nt2 k2=>?_⟩;have FL:=iQ hA.hn hA.hw.ok hA.ok.wf hA.ok.root;have k12:=k1.trans k2;refine ⟨_,rfl,_,rfl,_,rfl,c,nl,wl,t2,m,ws,n,1,_,rfl,.inl rfl,hA.keep k12,ht2,FL.len,λt3 H3 ht3 nt3 k3=>?_⟩;have k13:=k12.trans k3;refine ⟨_,rfl,_,rfl,_,rfl,c,nl,wl,t2,m,ws,n,2,_,rfl,.inr rfl,hA.keep k13,ht2.keep k3,FL.len,λt4 H4 ht4 nt4 k4=>?_⟩;have k14:=k13.trans k4;refine ⟨_,rfl,by show 1<=sizeLine;decide,λan na=>?_⟩;have ka:aH [] H4 (upd H4 an (.lst [.int (n:Nat)])):=aH.laid na;have ht3a:=(ht3.keep k4).keep ka;have ht4a:=ht4.keep ka;have n3:t3≠an:=OD (ht3.keep k4) na;have n4:t4≠an:=OD ht4 na;have an0:H an=none:=k14.none na (by simp);have k1a:=k14.trans ka;generalize hH5:upd H4 an (.lst [.int (n:Nat)])=H5 at ka ht3a ht4a k1a;have ha5:H5 an=some (.lst (bQ [(n:Int)])):=by rw[← hH5];exact aA
  refine ⟨λσ' H'=>(∃ o,σ'=[some (.ref d),some (.ref al),some (.ref c),some (.int (n:Nat)),some (.ref t2),some (.ref t3),some (.ref t4),some (.ref an),o])/\H' an=some (.lst (bQ ((n:Int)::(List.range n).flatMap (BK (bU ws m) m.nodes))))/\aH [an] H5 H',?_,?_⟩
  ·refine ⟨_,rfl,_,rfl,by lia,by lia,?_⟩;rw[Int.toNat_natCast];refine qS (n:=n) (λi σ' H'=>(∃ o,σ'=[some (.ref d),some (.ref al),some (.ref c),some (.int (n:Nat)),some (.ref t2),some (.ref t3),some (.ref t4),some (.ref an),o])/\(∃ ys:List Int,H' an=some (.lst (bQ ys))/\ys=(n:Int)::(List.range i).flatMap (BK (bU ws m) m.nodes)/\ys.length=1+4*i)/\aH [an] H5 H') ?_ ?_ ?_
   ·exact ⟨⟨_,rfl⟩,⟨_,ha5,rfl,rfl⟩,aH.refl⟩
   ·rintro i σ' H' hi ⟨⟨o,rfl⟩,⟨ys,y1,y2,y3⟩,z3⟩;have ei:(0:Int)+((i:Nat):Int)=((i:Nat):Int):=by lia
    rw[ei];have b3:(dM (bU ws m) m.nodes 1 n).length=n:=hX _ _ _ _;have b4:(dM (bU ws m) m.nodes 2 n).length=n:=hX _ _ _ _;have v3:=ht3a.keepA n3 ha5 z3;have v4:=ht4a.keepA n4 ha5 z3;obtain ⟨as3,l3,x3,hx3,ho3⟩:=v3.get (i:=i) (by rw[b3];exact hi);rw[nV hi] at ho3;have p3:=(mE hA.hn h12 hA.hw hA.ok (.yes i)).2;have p4:=(mE hA.hn h12 hA.hw hA.ok (.no i)).2;refine ⟨_,rfl,.inl ⟨rfl,_,SqL.of y1⟩,_,rfl,_,rfl,t3,_,_,_,rfl,rfl,SqL.of l3,aX hx3,x3,_,rfl,ho3,p3.2.2,cC p3.2.1 (by decide),λr6 H6 hr6 nr6 k6=>?_⟩;have y6:=k6 _ _ y1 (by simp);have sl:49<=sizeLine:=by decide
    refine ⟨an,r6,_,_,rfl,rfl,y6,hr6,by show (bQ ys).length+2<=sizeLine;unfold bQ;rw[List.length_map,y3];lia,?_⟩
    have kA:aH [an] H' (upd H6 an (.lst (bQ ys++bQ (fracRow (frac (cS (bU ws m) m.nodes (mZ 1 i)).1 (cS (bU ws m) m.nodes (mZ 1 i)).2))))):=λb o z nb=>by
     rw[aB (by simpa using nb)];exact k6 b o z (by simp)
    have v4':=v4.keepA n4 y1 kA;obtain ⟨as4,l4,x4,hx4,ho4⟩:=v4'.get (i:=i) (by rw[b4];exact hi);rw[nV hi] at ho4;refine ⟨_,rfl,.inl ⟨rfl,_,SqL.of aA⟩,_,rfl,_,rfl,t4,_,_,_,rfl,rfl,SqL.of l4,aX hx4,x4,_,rfl,ho4,p4.2.2,cC p4.2.1 (by decide),λr7 H7 hr7 nr7 k7=>?_⟩;have y7:=k7 _ _ aA (by simp);refine ⟨an,r7,_,_,rfl,rfl,y7,hr7,by show (bQ ys++bQ (fracRow _)).length+2<=sizeLine;rw[List.length_append];show (bQ ys).length+2+2<=sizeLine;unfold bQ;rw[List.length_map,y3];lia,⟨_,rfl⟩,⟨ys++BK (bU ws m) m.nodes i,?_,?_,?_⟩,?_⟩
    ·rw[aA,iC];unfold BK;rw[iC,List.append_assoc];rfl
    ·rw[y2,List.range_succ,List.flatMap_append];simp
    ·rw[List.length_append,y3];show 1+4*i+4=_;lia
    ·intro b o z nb;rw[aB (by simpa using nb)];exact k7 b o (kA b o (z3 b o z nb) nb) (by simp)
   ·rintro σ' H' ⟨z1,⟨ys,y1,y2,_⟩,z3⟩;exact ⟨z1,y2▸y1,z3⟩
  ·rintro σ6 H6 ⟨⟨o,rfl⟩,y1,z3⟩;exact ⟨_,rfl,q an H6 y1 an0 λb o z _=>z3 b o (k1a b o z (by simp)) (by simpa using aD z an0)⟩
theorem k9:aO ["desk","numbers","circuit","how_many","values","whole","by_yes","answer","variable","top"] ["desk","numbers"] (aI (bO 10)):=by walk_at "s"
def B4 (ws:List RW)(m:Vaprbi.Made)(v:Nat):List Int:=fracRow (frac (((ws.getD v rw0).y*(cS (bU ws m) m.nodes (.yes v)).1:Nat):Int) (rv ws m.nodes m.root).1)
theorem tX {α β:Type}{f g:α->List β}:∀ {l:List α},(∀ x∈l,f x=g x)->l.flatMap f=l.flatMap g
 | [],_=>rfl
 | a::l,h=>by
  rw[List.flatMap_cons,List.flatMap_cons,h a (List.mem_cons_self ..),tX λx hx=>h x (List.mem_cons_of_mem _ hx)]
theorem i7.keepA {CW:Addr}{H H':Hp}{wl an:Addr}{ws:List RW}{xs:List V}(h:i7 CW H wl ws)(ne:wl≠an)(ha:H an=some (.lst xs))(k:aH [an] H H'):i7 CW H' wl ws:=by
 obtain ⟨as,e,p⟩:=h;refine ⟨as,k _ _ e (by simpa using ne),Paired.mapP p λ_ _ ⟨dx,z⟩=>⟨dx,k _ _ z (by simpa using bI z ha (by intro z;cases z))⟩⟩
theorem PK {CD CC CW CG f:Addr}{fd:FuncData}(N:kL K mg CD CC CW CG)(F:Def K mg "answer_marginals" (bO 10) ["desk","numbers"] f fd):aN P w K mg base CX0 4 f fd ["desk","numbers"] (sR K CD CC CW (λi _=>.marginals i) 0):=by
 obtain ⟨g1,d1,G1⟩:=N.pof;obtain ⟨g2,d2,G2⟩:=N.tf;obtain ⟨g3,d3,G3⟩:=N.vof;obtain ⟨g4,d4,G4⟩:=N.fof;obtain ⟨fW,wd,WC⟩:=N.vg.wc;have O1:aN P w K mg base CX0 1 g1 d1 ["circuit","flows","kind","how_many"] (mL K CC CW):=uI N.fg G1;have O2:aN P w K mg base CX0 3 g2 d2 ["fraction"] fE:=fK N.ls N.rat G2;have O3:aN P w K mg base CX0 2 g3 d3 ["circuit","weights"] (eP K CC CW):=fZ N.vg G3;have O4:aN P w K mg base CX0 3 g4 d4 ["circuit","values"] (j9 K CC CW):=nG N.fg G4;refine F.fn.ok k9 (λus H Q E h=>?_) (λcdv A outer s H us Q E hr h=>?_)
 ·walk_at "l"
 ·obtain ⟨gh,d,dx,nm,ch,wl,cl,al,st,ws,j,rest,f,m,rfl,hD,hal,hr0,hm,q⟩:=h;obtain rfl:rest=[]:=List.length_eq_zero_iff.mp hr0;obtain ⟨cs,c,nl,hcl,hc,hA⟩:=hD.ask hm;have h12:=hA.h12;generalize hn:st.vars.length=n at hA h12;have tz:=vP hA.hn hA.h12 hA.hw hA.ok
  have e:looked st (.marginals (j:Int))=if (rv ws m.nodes m.root).1=0 then Vaprbi.refused (-6) else { value:=(n:Int),rest:=(List.range n).flatMap (B4 ws m) }:=by
   simp only[looked];rw[d9 hm];unfold marginalsAnswer;rw[← hD.spec,hn]
   by_cases z:(rv ws m.nodes m.root).1=0
   ·rw[if_pos z];exact if_pos (tz.mpr z)
   ·rw[if_neg z];refine (if_neg λy=>z (tz.mp y)).trans ?_;congr 1;refine tX λv hv=>?_;unfold B4;rw[B5 hA.hn h12 hA.hw hA.ok (List.mem_range.mp hv) z]
  rw[e] at q
  refine ⟨_,aG (aQ (i:=2) k9.nd rfl (Or.inl rfl) (aK aL (aJ (pv 0) rfl) (aK aL (pv 1) aF (λ_ _=>rfl)) (λ_ _=>rfl)))
   (aG (aQ (i:=3) k9.nd rfl (Or.inl rfl) (b9 aU (by rfl) N.cm.len PySem.boot_len (a9 (aJ (pv 0) rfl) aC)))
   (aG (aQ (i:=4) k9.nd rfl (Or.inl rfl) (aS O3 (hr.mono (by decide)) (by rfl) G3.at_ G3.fn.kp G3.bd .nil aR (a9 (pv 2) (a9 (aJ (pv 0) rfl) aC))))
   (aG (aQ (i:=5) k9.nd rfl (Or.inl rfl) (aK aL (pv 4) (aJ (pv 2) rfl) (λ_ _=>rfl)))
   (aG (bC (aT bV (aK aW (pv 5) aF (λ_ _=>rfl)) aF (aY _)) (aE (aP (bD (a9 (pgi N.iz) aC)))) aV)
   (aG (aQ (i:=6) k9.nd rfl (Or.inl rfl) (aS O1 (hr.mono (by decide)) (by rfl) G1.at_ G1.fn.kp G1.bd .nil aR (a9 (pv 2) (a9 (aS O4 hr (by rfl) G4.at_ G4.fn.kp G4.bd .nil aR (a9 (pv 2) (a9 (pv 4) aC))) (a9 (pgi N.ki.yes) (a9 (pv 3) aC))))))
   (aG (aQ (i:=7) k9.nd rfl (Or.inl rfl) (bD (a9 (pv 3) aC)))
   (aM (jX PassesOwn.never rfl (mF rfl N.rg (a9 (pv 3) aC)) (dQ (i:=8) k9.nd rfl (Or.inl rfl))
    (aG (aQ (i:=9) k9.nd rfl (Or.inl rfl) (b7 dY (aJ (aK aL (aJ (pv 0) rfl) (pv 8) (λ_ _=>rfl)) rfl) (aK aW (aK aL (pv 6) (pv 8) (λ_ _=>rfl)) aF (λ_ _=>rfl))))
    (aE (bE (iB PySem.F.plainAttrs_list PySem.F.slot_list_extend PySem.F.type_list_extend mC (pv 7) (a9 (aS O2 hr (by rfl) G2.at_ G2.fn.kp G2.bd .nil aR (a9 (cA (a9 (pv 9) (a9 (aK aW (pv 5) aF (λ_ _=>rfl)) aC))) aC)) aC))))))
   (aE (aP (pv 7)))))))))),?_⟩
  refine ⟨_,rfl,d,CD,dx,_,_,rfl,hD.ob,N.T.cl,N.T.nC,bR _ _ _ _,_,rfl,al,_,0,_,rfl,rfl,SqL.of hal,rfl,cl,_,_,_,rfl,rfl,SqL.of hcl,aX hc,?_⟩;refine ⟨_,rfl,d,CD,dx,_,_,rfl,hD.ob,N.T.cl,N.T.nN,hJ _ _ _ _,nm,_,rfl,.inl (SqL.of hD.nms),?_⟩;rw[nF,hn];refine ⟨_,rfl,_,rfl,d,CD,dx,_,_,rfl,hD.ob,N.T.cl,N.T.nW,cW _ _ _ _,c,nl,wl,m,ws,n,rfl,hA,λt1 H1 ht1 nt1 k1=>?_⟩;have hA1:=hA.keep k1;obtain ⟨dc,hco⟩:=hA1.ci.ob;obtain ⟨as1,hl1,x1,hx1,hox1⟩:=ht1.get (i:=m.root) (by rw[show (dX ws m.nodes).length=_ from eM _ _];exact hA.ok.root);refine ⟨_,rfl,_,rfl,c,CC,dc,_,_,rfl,hco,N.cm.cl,N.cm.nR,oU _ _,t1,_,_,_,rfl,rfl,SqL.of hl1,aX hx1,?_⟩;refine ⟨_,rfl,x1,_,0,_,rfl,rfl,SqT.of hox1,rfl,rfl,_,rfl,?_⟩;have hox1':H1 x1=some (gS (rv ws m.nodes m.root)):=hox1
  by_cases z:(rv ws m.nodes m.root).1=0
  ·rw[if_pos z] at q;refine itT (by show decide (V.int (((rv ws m.nodes m.root).1:Nat):Int)=V.int 0)=true;rw[z];decide) ?_;exact ⟨by show 1<=sizeLine;decide,λr nr=>q r _ aA (k1.none nr (by simp)) (k1.trans (aH.laid nr))⟩
  ·rw[if_neg z] at q;refine itF (by show ¬ decide (V.int (((rv ws m.nodes m.root).1:Nat):Int)=V.int 0)=true;rw[cV];simp only[decide_eq_true_eq];lia) ?_;have FL:=iQ hA.hn hA.hw.ok hA.ok.wf hA.ok.root;refine ⟨_,rfl,_,rfl,_,rfl,c,nl,wl,t1,m,ws,n,rfl,hA1,ht1,λt2 H2 ht2 nt2 k2=>?_⟩;have k12:=k1.trans k2;refine ⟨_,rfl,c,nl,wl,t2,m,ws,n,1,_,rfl,.inl rfl,hA.keep k12,ht2,FL.len,λt3 H3 ht3 nt3 k3=>?_⟩;have k13:=k12.trans k3;refine ⟨_,rfl,by show 1<=sizeLine;decide,λan na=>?_⟩;have ka:aH [] H3 (upd H3 an (.lst [.int (n:Nat)])):=aH.laid na;have ht3a:=ht3.keep ka;have n3:t3≠an:=OD ht3 na;have an0:H an=none:=k13.none na (by simp);have k1a:=k13.trans ka;have hA5:=hA.keep k1a
   have nw:wl≠an:=by
    obtain ⟨wa,we,_⟩:=(hA.keep k13).ws_;exact aD we na
   have hx5:=((k2.trans k3).trans ka) _ _ hox1' (by simp);have hd5:=k1a _ _ hD.ob (by simp);generalize hH5:upd H3 an (.lst [.int (n:Nat)])=H5 at ka ht3a k1a hA5 hx5 hd5;have ha5:H5 an=some (.lst (bQ [(n:Int)])):=by rw[← hH5];exact aA
   refine ⟨λσ' H'=>(∃ o o',σ'=[some (.ref d),some (.ref al),some (.ref c),some (.int (n:Nat)),some (.ref t1),some (.ref x1),some (.ref t3),some (.ref an),o,o'])/\H' an=some (.lst (bQ ((n:Int)::(List.range n).flatMap (B4 ws m))))/\aH [an] H5 H',?_,?_⟩
   ·refine ⟨_,rfl,_,rfl,by lia,by lia,?_⟩;rw[Int.toNat_natCast];refine qS (n:=n) (λi σ' H'=>(∃ o o',σ'=[some (.ref d),some (.ref al),some (.ref c),some (.int (n:Nat)),some (.ref t1),some (.ref x1),some (.ref t3),some (.ref an),o,o'])/\(∃ ys:List Int,H' an=some (.lst (bQ ys))/\ys=(n:Int)::(List.range i).flatMap (B4 ws m)/\ys.length=1+2*i)/\aH [an] H5 H') ?_ ?_ ?_
    ·exact ⟨⟨_,_,rfl⟩,⟨_,ha5,rfl,rfl⟩,aH.refl⟩
    ·rintro i σ' H' hi ⟨⟨o,o',rfl⟩,⟨ys,y1,y2,y3⟩,z3⟩;have ei:(0:Int)+((i:Nat):Int)=((i:Nat):Int):=by lia
     rw[ei];have b3:(dM (bU ws m) m.nodes 1 n).length=n:=hX _ _ _ _;have v3:=ht3a.keepA n3 ha5 z3;obtain ⟨as3,l3,x3,hx3,ho3⟩:=v3.get (i:=i) (by rw[b3];exact hi);rw[nV hi] at ho3;have p3:=(mE hA.hn h12 hA.hw hA.ok (.yes i)).2;obtain ⟨was,wl1,wx,wdx,hwx,hwo⟩:=(hA5.ws_.keepA nw ha5 z3).get (i:=i) (by rw[hA.hn];exact hi);have hd':H' d=some (.ins CD dx (dkF nm ch wl cl)):=z3 _ _ hd5 (by simpa using bI hd5 ha5 (by intro z;cases z));have hx':H' x1=some (gS (rv ws m.nodes m.root)):=jE hx5 ha5 z3;have wb:=qM hA.hw i;have ylt:(ws.getD i rw0).y<2^120:=Nat.lt_of_le_of_lt wb.y y4;refine ⟨_,rfl,d,CD,dx,_,_,rfl,hd',N.T.cl,N.T.nW,cW _ _ _ _,_,rfl,wl,_,_,_,rfl,rfl,SqL.of wl1,aX hwx,wx,CW,wdx,_,_,rfl,hwo,WC.cl,WC.nY,A7 _ _ _,?_⟩;refine ⟨_,rfl,_,rfl,t3,_,_,_,rfl,rfl,SqL.of l3,aX hx3,x3,_,0,_,rfl,rfl,SqT.of ho3,rfl,_,_,rfl,rfl,⟨bL ylt (by decide),bL p3.1 (by decide)⟩,?_⟩;refine ⟨_,rfl,.inl ⟨rfl,_,SqL.of y1⟩,_,rfl,_,rfl,x1,_,0,_,rfl,rfl,SqT.of hx',rfl,by show 2<=sizeLine;decide,λtp ntp=>?_⟩;have kt:aH [] H' (upd H' tp (.tup [.int (((ws.getD i rw0).y:Nat)*((cS (bU ws m) m.nodes (mZ 1 i)).1:Nat)),.int (((rv ws m.nodes m.root).1:Nat):Int)])):=aH.laid ntp;refine ⟨tp,((ws.getD i rw0).y*(cS (bU ws m) m.nodes (.yes i)).1,(rv ws m.nodes m.root).1),rfl,?_,Nat.pos_of_ne_zero z,cC (rF hA.hn hA.h12 hA.hw hA.ok.wf hA.ok.len hA.ok.root) (by decide),λr6 H6 hr6 nr6 k6=>?_⟩
     ·rw[aA];unfold gS;rw[Int.natCast_mul];rfl
     have y6:=(kt.trans k6) _ _ y1 (by simp);have sl:49<=sizeLine:=by decide
     refine ⟨an,r6,_,_,rfl,rfl,y6,hr6,by show (bQ ys).length+2<=sizeLine;unfold bQ;rw[List.length_map,y3];lia,⟨_,_,rfl⟩,⟨ys++B4 ws m i,?_,?_,?_⟩,?_⟩
     ·rw[aA,iC];rfl
     ·rw[y2,List.range_succ,List.flatMap_append];simp
     ·rw[List.length_append,y3];show 1+2*i+2=_;lia
     ·intro b o z nb;rw[aB (by simpa using nb)];exact (kt.trans k6) b o (z3 b o z nb) (by simp)
    ·rintro σ' H' ⟨z1,⟨ys,y1,y2,_⟩,z3⟩;exact ⟨z1,y2▸y1,z3⟩
   ·rintro σ6 H6 ⟨⟨o,o',rfl⟩,y1,z3⟩;exact ⟨_,rfl,q an H6 y1 an0 λb o z _=>z3 b o (k1a b o z (by simp)) (by simpa using aD z an0)⟩
def sO (d wl cl wl' cl':Addr)(H H':Hp):Prop:=∀ g o,H g=some o->g≠d->g≠wl->g≠cl->H' g=some o/\g≠wl'/\g≠cl'
theorem sO.of {d wl cl:Addr}{H H':Hp}(k:aH [] H H'):sO d wl cl wl cl H H':=λg o z _ n2 n3=>⟨k g o z (by simp),n2,n3⟩
def w9 (K:PySem.W.Frag)(CD CC CW gh d wl cl:Addr)(H:Hp)(s':Vaprbi.State)(ans:List Int)(Q:VK):Prop:=
 ∀ (r:Addr) (H':Hp) (dx' nm' ch' wl' cl':Addr) (ws':List RW),H' r=some (.lst (bQ ans))->H r=none->Dk K CD CC CW gh H' d dx' nm' ch' wl' cl' s' ws'->sO d wl cl wl' cl' H H'->Q (.ref r) H'
structure oJ (P:Program)(w:World)(K:PySem.W.Frag)(mg:Str->Option Value)(base:Heap)(C CR CT CV CS CD CC CW CM:Addr):Prop where
 T:rZ K mg CD
 fc:∃ f fd,gE K mg C f fd
 tfl:∃ f fd,Def K mg "tell_fault" hZ ["fault"] f fd
 vg:R9 P w K mg base C CR CT CV
 vof:∃ f fd,Def K mg "variables_of" pY ["text"] f fd
 hg:KC K mg CD CW CV
 hold:∃ f fd,bN K CD "hold" "Desk.hold" (sDk 1) ["self","variables"] f fd
 hv:∃ f fd,bN K CD "has_variable" "Desk.has_variable" (sDk 4) ["self","number"] f fd
 fg:R6 P w K mg base C CR CT CS
 fof:∃ f fd,Def K mg "function_of" BX ["text","names"] f fd
 cg:K8 K mg CM CC
 cof:∃ f fd,Def K mg "circuit_of" pU ["table","how_many"] f fd
 cm:rY K mg CC
 ncc:CD≠CC
 mc:GI mg "MOST_CIRCUITS" 16
 mn:GI mg "MOST_NODES" 2000
 cf:GI mg "CIRCUITS_FULL" (-3)
 tm:GI mg "NODES_TOO_MANY" (-8)
 nt:GI mg "NOT_THERE" (-5)
 rat:KG K mg
 wof:∃ f fd,Def K mg "weight_of" j5 ["yes","no"] f fd
inductive NP (K:PySem.W.Frag) (CD CC CW:Addr) (us:List V) (H:Hp) (Q:VK) (E:XK):Prop
 | mk:∀ (gh d dx nm ch wl cl al:Addr) (s:Vaprbi.State) (ws:List RW) (bs:List UInt8),us=[.ref d,.ref al]->Dk K CD CC CW gh H d dx nm ch wl cl s ws->TxL K H al bs->bs.length<=8192->w9 K CD CC CW gh d wl cl H (Vaprbi.step s (.vars bs)).1 (VaprbiNeutral.encode (Vaprbi.step s (.vars bs)).2) Q->NP K CD CC CW us H Q E
theorem EK:aO ["desk","text","variables","fault"] ["desk","text"] (aI (bO 0)):=by walk_at "s"
theorem PV {C CR CT CV CS CD CC CW CM f:Addr}{fd:FuncData}(N:oJ P w K mg base C CR CT CV CS CD CC CW CM)(F:Def K mg "answer_vars" (bO 0) ["desk","text"] f fd):aN P w K mg base CX0 9 f fd ["desk","text"] (NP K CD CC CW):=by
 obtain ⟨g1,d1,G1⟩:=N.vof;obtain ⟨g2,d2,G2⟩:=N.tfl;obtain ⟨g3,d3,G3⟩:=N.hold;obtain ⟨fC,cd,FC⟩:=N.fc;have O1:aN P w K mg base (CXF P w C) 8 g1 d1 ["text"] (vH K C CV):=JC N.vg G1;have O2:AC P w K mg base 1 g2 d2 ["fault"] (iD C):=pF FC G2;have O3:aN P w K mg base CX0 6 g3 d3 ["self","variables"] (EO CD CW CV):=PJ N.hg G3;refine F.fn.ok EK (λus H Q E h=>?_) (λcdv A outer s H us Q E hr h=>?_)
 ·walk_at "l"
 ·obtain ⟨gh,d,dx,nm,ch,wl,cl,al,st,ws,bs,rfl,hD,hal,h8,q⟩:=h
  refine ⟨_,aM (MR (i:=3) FC.mak (by rfl) FC.at_ EK.nd rfl rfl rfl rfl rfl
    (λpn xe E hx=>aE (aQ (i:=2) EK.nd rfl (Or.inl rfl) (aS O1 hr (by rfl) G1.at_ G1.fn.kp G1.bd .nil hx (a9 (pv 1) aC))))
    (λe=>aE (aP (BM O2 ((hr.mono (by decide)).q _) (by rfl) G2.at_ G2.fn.kp G2.bd (a9 (pv 3) aC)))))
   (aG (bE (bA (pv 0) N.T.cl G3.me O3 (hr.mono (by decide)) G3.bd .nil aR (a9 (pv 2) aC)))
   (aE (aP (bD (a9 aF aC))))),?_⟩
  refine ⟨λσ' H'=>∃ (vs:List Var) (v nl cv:Addr),Vaprbg.readVars bs=.ok vs/\σ'=[some (.ref d),some (.ref al),some (.ref v),none]/\VAt CV H' v nl cv (vs.map (·.name)) (vs.map (·.chance))/\H v=none/\H nl=none/\H cv=none/\vs.length<=12/\aH [] H H',?_,?_⟩
  ·refine ⟨_,rfl,al,bs,rfl,hal,h8,?_⟩
   cases hv:Vaprbg.readVars bs with
   | error ft=>
    have e1:Vaprbi.step st (.vars bs)=(st,{ value:=0,rest:=[(ft.code:Int),(ft.place:Int)] }):=by
     unfold Vaprbi.step;simp only[hv]
    rw[e1] at q;intro e od H1 hf k1;refine ⟨e,rfl,λσ hl=>?_⟩;refine ⟨.ref e,?_,e,_,_,rfl,hf,λr nr=>q r _ dx nm ch wl cl ws aA (k1.none nr (by simp)) (hD.keep (k1.trans (aH.laid nr))) (sO.of (k1.trans (aH.laid nr)))⟩;rw[List.getElem?_set_self (by rw[hl];show 3<4;decide)]
   | ok vs=>
    intro v nl cv H1 hV n1 n2 n3 h12 k1;exact ⟨vs,v,nl,cv,rfl,rfl,hV,n1,n2,n3,h12,k1⟩
  ·rintro σ1 H1 ⟨vs,v,nl,cv,hv,rfl,hV,n1,n2,n3,h12,k1⟩
   have e1:Vaprbi.step st (.vars bs)=({ vars:=vs,weights:=byChances vs },{ value:=1 }):=by
    unfold Vaprbi.step;simp only[hv]
   rw[e1] at q;obtain ⟨vok,_⟩:=BS hv;have hd1:=k1 _ _ hD.ob (by simp);refine ⟨_,rfl,d,dx,_,rfl,hd1,(tS _ _ _ _).2.1,_,rfl,d,dx,nm,ch,wl,cl,v,nl,cv,vs,rfl,hd1,hV,h12,vok.ch,λt c H2 e2 ht hc nt nc tc k2=>?_⟩;refine ⟨by show 1<=sizeLine;decide,λr nr=>?_⟩;have k3:aH [] H2 (upd H2 r (.lst [.int 1])):=aH.laid nr;have hn1:=hV.nm;obtain ⟨as,hc1,hc2⟩:=hV.ch;have md:∀ {b:Addr} {xs:List V},H1 b=some (.lst xs)->b≠d:=λz=>bI z hd1 (by intro z;cases z);have mt:∀ {b:Addr} {xs:List V},H1 b=some (.tup xs)->b≠d:=λz=>bI z hd1 (by intro z;cases z);have k23:∀ b o,H1 b=some o->b≠d->(upd H2 r (.lst [.int 1])) b=some o:=λb o z nb=>k3 _ _ (k2 b o z (by simpa using nb)) (by simp)
   have r0:H r=none:=by
    cases z:H r with
    | none=>rfl
    | some o=>
     have z1:=k1 _ _ z (by simp)
     by_cases e:r=d
     ·subst e;rw[e2] at nr;cases nr
     ·rw[k2 r o z1 (by simpa using e)] at nr;cases nr
   obtain ⟨sp1,sp2,sp3⟩:=FF vok.ch;refine q r _ dx nl cv t c (tQ vs) aA r0 ⟨k3 _ _ e2 (by simp),k23 _ _ hn1 (md hn1),⟨as,k23 _ _ hc1 (md hc1),Paired.mapP (nL hc2) λ_ _ z=>k23 _ _ z (mt z)⟩,ht.keep k3,sp1,sp2,sp3,vok,h12,⟨[],k3 _ _ hc (by simp),.nil⟩,(λp hp=>by cases hp),Nat.zero_le _,?_,?_,hD.gd,?_⟩ ?_
   ·exact ⟨aD hn1 nt,aD hn1 nc,aD hc1 nt,aD hc1 nc,tc⟩
   ·obtain ⟨go,hgo⟩:=hD.gs;exact ⟨go,k23 _ _ (k1 _ _ hgo (by simp)) hD.gd⟩
   ·obtain ⟨go,hgo⟩:=hD.gs;have hg1:=k1 _ _ hgo (by simp);exact ⟨aD hgo n2,aD hgo n3,aD hg1 nt,aD hg1 nc⟩
   ·intro g o z ng _ _;have z1:=k1 _ _ z (by simp);exact ⟨k23 _ _ z1 ng,aD z1 nt,aD z1 nc⟩
theorem tE.updL {K:PySem.W.Frag}{CC a nl x:Addr}{H:Hp}{c:Circuit}{r:Nat}{xs ys:List V}(h:tE K CC H a nl c r)(hx:H x=some (.lst xs))(ne:nl≠x):tE K CC (upd H x (.lst ys)) a nl c r:=by
 obtain ⟨⟨dx,e⟩,as,h1,h2⟩:=h;refine ⟨⟨dx,by rw[aB (bI e hx (by intro z;cases z))];exact e⟩,as,by rw[aB ne];exact h1,Paired.mapP h2 λ_ _ z=>z.upd hx (by intro xs z;cases z)⟩
theorem AA.updL {ch x:Addr}{H:Hp}{vs:List Var}{xs ys:List V}(h:AA H ch vs)(hx:H x=some (.lst xs))(ne:ch≠x):AA (upd H x (.lst ys)) ch vs:=by
 obtain ⟨as,e,p⟩:=h;exact ⟨as,by rw[aB ne];exact e,Paired.mapP p λ_ _ z=>by rw[aB (bI z hx (by intro z;cases z))];exact z⟩
theorem i7.updL {CW wl x:Addr}{H:Hp}{ws:List RW}{xs ys:List V}(h:i7 CW H wl ws)(hx:H x=some (.lst xs))(ne:wl≠x):i7 CW (upd H x (.lst ys)) wl ws:=by
 obtain ⟨as,e,p⟩:=h;exact ⟨as,by rw[aB ne];exact e,Paired.mapP p λ_ _ z=>z.lst hx⟩
theorem Q1 {X:Cx}{K:PySem.W.Frag}{o:Expr}{f:Str}{pos:Pos}{ta:TE}(hk:X.K=K)(ha:PE X o ta)(hb:attributeBase o f X.env (eval o X.env)=eval o X.env):PE X (.Attribute o f pos) (WL K ta f):=by
 subst hk;exact aJ ha hb
theorem JY {s:Vaprbi.State}(h:s.vars≠[])(b:Bytes):Vaprbi.step s (.add b)=addAnswer s b:=by
 unfold Vaprbi.step;simp only[h,if_false]
inductive RZ (K:PySem.W.Frag) (CD CC CW:Addr) (us:List V) (H:Hp) (Q:VK) (E:XK):Prop
 | mk:∀ (gh d dx nm ch wl cl al:Addr) (s:Vaprbi.State) (ws:List RW) (bs:List UInt8),us=[.ref d,.ref al]->Dk K CD CC CW gh H d dx nm ch wl cl s ws->TxL K H al bs->bs.length<=8192->w9 K CD CC CW gh d wl cl H (addAnswer s bs).1 (VaprbiNeutral.encode (addAnswer s bs).2) Q->RZ K CD CC CW us H Q E
theorem HC:aO ["desk","text","table","fault","circuit"] ["desk","text"] (aI (bO 1)):=by walk_at "s"
theorem SV {C CR CT CV CS CD CC CW CM f:Addr}{fd:FuncData}(N:oJ P w K mg base C CR CT CV CS CD CC CW CM)(F:Def K mg "answer_add" (bO 1) ["desk","text"] f fd):aN P w K mg base CX0 55 f fd ["desk","text"] (RZ K CD CC CW):=by
 obtain ⟨g1,d1,G1⟩:=N.fof;obtain ⟨g2,d2,G2⟩:=N.tfl;obtain ⟨g3,d3,G3⟩:=N.cof;obtain ⟨fC,cd,FC⟩:=N.fc;have O1:aN P w K mg base (CXF P w C) 54 g1 d1 ["text","names"] (EM K C):=PF N.fg G1;have O2:AC P w K mg base 1 g2 d2 ["fault"] (iD C):=pF FC G2;have O3:aN P w K mg base CX0 40 g3 d3 ["table","how_many"] (v9 K CC):=JA N.cg G3;refine F.fn.ok HC (λus H Q E h=>?_) (λcdv A outer s H us Q E hr h=>?_)
 ·walk_at "l"
 ·obtain ⟨gh,d,dx,nm,ch,wl,cl,al,st,ws,bs,rfl,hD,hal,h8,q⟩:=h;obtain ⟨cs,hc1,hc2⟩:=hD.crs;have hcl:cs.length=st.made.length:=bB hc2;have T:=N.T
  refine ⟨_,aM (MR (i:=3) FC.mak (by rfl) FC.at_ HC.nd rfl rfl rfl rfl rfl
    (λpn xe E hx=>aE (aQ (i:=2) HC.nd rfl (Or.inl rfl) (aS O1 hr (by rfl) G1.at_ G1.fn.kp G1.bd .nil hx (a9 (pv 1) (a9 (Q1 (K:=K) rfl (pv 0) rfl) aC)))))
    (λe=>aE (aP (BM O2 ((hr.mono (by decide)).q _) (by rfl) G2.at_ G2.fn.kp G2.bd (a9 (pv 3) aC)))))
   (aG (bC (aT bV (b9 aU (by rfl) T.len PySem.boot_len (a9 (aJ (pv 0) rfl) aC)) (pgi N.mc) (aY _)) (aE (aP (bD (a9 (pgi N.cf) aC)))) aV)
   (aG (aQ (i:=4) HC.nd rfl (Or.inl rfl) (aS O3 (hr.mono (by decide)) (by rfl) G3.at_ G3.fn.kp G3.bd .nil aR (a9 (pv 2) (a9 (b9 aU (by rfl) T.len PySem.boot_len (a9 (aJ (pv 0) rfl) aC)) aC))))
   (aG (bC (aT sH (b9 aU (by rfl) T.len PySem.boot_len (a9 (aJ (pv 4) rfl) aC)) (pgi N.mn) (aY _)) (aE (aP (bD (a9 (pgi N.tm) aC)))) aV)
   (aG (bE (iB PySem.F.plainAttrs_list PySem.F.slot_list_append PySem.F.type_list_append dG (aJ (pv 0) rfl) (a9 (pv 4) aC)))
   (aE (aP (bD (a9 aF (a9 (b7 gG (b9 aU (by rfl) T.len PySem.boot_len (a9 (aJ (pv 0) rfl) aC)) aF) aC)))))))))
   ,?_⟩
  refine ⟨λσ' H'=>∃ fo:Form,Vaprbg.readForm st.vars bs=.ok fo/\σ'=[some (.ref d),some (.ref al),some (.int (dZ st.vars.length fo:Nat)),none,none]/\aH [] H H',?_,?_⟩
  ·refine ⟨_,rfl,_,rfl,d,CD,dx,_,_,rfl,hD.ob,T.cl,T.nN,hJ _ _ _ _,al,nm,bs,st.vars,rfl,hal,h8,hD.nms,hD.vok.nd,hD.v12,?_⟩
   cases hv:Vaprbg.readForm st.vars bs with
   | error ft=>
    have e1:addAnswer st bs=(st,{ value:=0,rest:=[(ft.code:Int),(ft.place:Int)] }):=by
     unfold addAnswer;rw[hv]
    rw[e1] at q;intro e od H1 hf k1;refine ⟨e,rfl,λσ hl=>?_⟩;refine ⟨.ref e,?_,e,_,_,rfl,hf,λr nr=>q r _ dx nm ch wl cl ws aA (k1.none nr (by simp)) (hD.keep (k1.trans (aH.laid nr))) (sO.of (k1.trans (aH.laid nr)))⟩;rw[List.getElem?_set_self (by rw[hl];show 3<5;decide)]
   | ok fo=>exact λH1 k1=>⟨fo,rfl,rfl,k1⟩
  ·rintro σ1 H1 ⟨fo,hv,rfl,k1⟩;have tl:dZ st.vars.length fo<pw st.vars.length:=rS _ _;have ec:circuitOf st.vars fo=⟨(mkT st.vars.length 0 (dZ st.vars.length fo) []).1,(mkT st.vars.length 0 (dZ st.vars.length fo) []).2⟩:=xW _ _
   have e1:addAnswer st bs=(if 16<=st.made.length then (st,Vaprbi.refused (-3)) else if 2000<(mkT st.vars.length 0 (dZ st.vars.length fo) []).1.length then (st,Vaprbi.refused (-8))
     else ({ st with made:=st.made++[(fo,⟨(mkT st.vars.length 0 (dZ st.vars.length fo) []).1,(mkT st.vars.length 0 (dZ st.vars.length fo) []).2⟩)] },{ value:=1,rest:=[(st.made.length:Int)] })):=by
    unfold addAnswer;rw[hv];show (if CIRCUITS<=st.made.length then _ else if NODES<(circuitOf st.vars fo).nodes.length then _ else _)=_;rw[ec];rfl
   rw[e1] at q;have mk0:=P4 (n:=st.vars.length) (t:=dZ st.vars.length fo);generalize hmk:(mkT st.vars.length 0 (dZ st.vars.length fo) [])=mk at q mk0;have hD1:=hD.keep k1;have hc1':=k1 _ _ hc1 (by simp);have m16:=hD.m16;refine ⟨_,rfl,d,CD,dx,_,_,rfl,hD1.ob,T.cl,T.nC,bR _ _ _ _,cl,_,rfl,.inl (SqL.of hc1'),rfl,_,rfl,?_⟩;rw[List.length_map,hcl]
   by_cases h16:16<=st.made.length
   ·rw[if_pos h16] at q;refine itT (by rw[cV];exact decide_eq_true (by lia)) ?_;exact ⟨by show 1<=sizeLine;decide,λr nr=>q r _ dx nm ch wl cl ws aA (k1.none nr (by simp)) (hD1.keep (aH.laid nr)) (sO.of (k1.trans (aH.laid nr)))⟩
   ·rw[if_neg h16] at q;refine itF (by rw[cV];simp only[decide_eq_true_eq];lia) ?_;refine ⟨_,rfl,_,rfl,d,CD,dx,_,_,rfl,hD1.ob,T.cl,T.nN,hJ _ _ _ _,nm,_,rfl,.inl (SqL.of hD1.nms),?_⟩;rw[nF];refine ⟨dZ st.vars.length fo,st.vars.length,rfl,hD.v12,tl,λa nl H2 hCi na nnl k2=>?_⟩;rw[hmk] at hCi;have k12:=k1.trans k2;have hD2:=hD.keep k12;obtain ⟨da,hao⟩:=hCi.ob;obtain ⟨as,hal2,hap⟩:=hCi.nds;refine ⟨_,rfl,a,CC,da,_,_,rfl,hao,N.cm.cl,N.cm.nN,eB _ _,nl,_,rfl,.inl (SqL.of hal2),_,_,rfl,rfl,_,rfl,?_⟩;rw[List.length_map,bB hap]
    by_cases h2k:2000<mk.1.length
    ·rw[if_pos h2k] at q;refine itT (decide_eq_true (by lia)) ?_;exact ⟨by show 1<=sizeLine;decide,λr nr=>q r _ dx nm ch wl cl ws aA (k12.none nr (by simp)) (hD2.keep (aH.laid nr)) (sO.of (k12.trans (aH.laid nr)))⟩
    ·rw[if_neg h2k] at q;refine itF (by simp only[decide_eq_true_eq];lia) ?_;have hc2':=k12 _ _ hc1 (by simp);refine ⟨_,rfl,d,CD,dx,_,_,rfl,hD2.ob,T.cl,T.nC,bR _ _ _ _,.inl ⟨rfl,_,SqL.of hc2'⟩,_,rfl,cl,_,_,rfl,rfl,hc2',by rw[List.length_map,hcl];exact Nat.lt_of_le_of_lt m16 (show 16<sizeLine by decide),?_⟩;have hob:(upd H2 cl (.lst (cs.map V.ref++[V.ref a]))) d=some (.ins CD dx (dkF nm ch wl cl)):=by rw[aB (bI hD2.ob hc2' (by intro z;cases z))];exact hD2.ob
     refine ⟨_,rfl,d,CD,dx,_,_,rfl,hob,T.cl,T.nC,bR _ _ _ _,cl,_,rfl,.inl (SqL.of aA),_,_,rfl,rfl,by show 2<=sizeLine;decide,λr nr=>?_⟩;have ncl:nl≠cl:=λz=>by rw[z,k1 _ _ hc1 (by simp)] at nnl;cases nnl
     have nwl:nl≠wl:=λz=>by
      obtain ⟨wa,we,_⟩:=hD1.wts;rw[z,we] at nnl;cases nnl
     have kc:∀ b o,H b=some o->b≠cl->(upd (upd H2 cl (.lst (cs.map V.ref++[V.ref a]))) r (.lst [.int 1,.int (((cs.map V.ref++[V.ref a]).length:Nat)-1)])) b=some o:=λb o z nb=>by
      have z2:=k12 _ _ z (by simp)
      have:(upd H2 cl (.lst (cs.map V.ref++[V.ref a]))) b=some o:=by rw[aB nb];exact z2
      rw[aB (aD this nr)];exact this
     have r0:H r=none:=by
      have:r≠cl:=λz=>by rw[z,aA] at nr;cases nr
      rw[aB this] at nr;exact k12.none nr (by simp)
     obtain ⟨e1,e2,e3,e4,e5⟩:=hD.ne;obtain ⟨cs2,hx1,hx2⟩:=hD2.crs
     obtain rfl:cs2=cs:=by
      have:cs2.map V.ref=cs.map V.ref:=by
       have:=hx1.symm.trans hc2'
       injection this with this
       injection this
      exact List.map_inj_right (λ_ _ z=>V.ref.inj z) |>.mp this
     obtain ⟨go,hgo⟩:=hD.gs;have hg1:=k1 _ _ hgo (by simp)
     have hD3:Dk K CD CC CW gh (upd H2 cl (.lst (cs2.map V.ref++[V.ref a]))) d dx nm ch wl cl { st with made:=st.made++[(fo,⟨mk.1,mk.2⟩)] } ws:={
      ob:=hob
      nms:=by rw[aB e2];exact hD2.nms
      chs:=hD2.chs.updL hc2' e4
      wts:=hD2.wts.updL hc2' e5
      spec:=hD.spec
      wb:=hD.wb
      wlen:=hD.wlen
      vok:=hD.vok
      v12:=hD.v12
      crs:=⟨cs2++[a],by rw[aA,List.map_append];rfl,(Paired.mapP hx2 λ_ _ ⟨nl',a1,a2,a3,z⟩=>⟨nl',a1,a2,a3,z.updL hc2' a1⟩).snoc ⟨nl,ncl,nwl,(aD hg1 nnl).symm,hCi.updL hc2' ncl⟩⟩
      mok:=λp hp=>by
       rcases List.mem_append.mp hp with z|z
       ·exact hD.mok p z
       ·have:p=(fo,⟨mk.1,mk.2⟩):=by simpa using z
        subst this;exact mk0 (by lia)
      m16:=by rw[List.length_append];show _+1<=16;lia
      ne:=hD.ne
      gs:=⟨go,by rw[aB hD.ng.2.2.2];exact k12 _ _ hgo (by simp)⟩
      gd:=hD.gd
      ng:=hD.ng }
     refine q r _ dx nm ch wl cl ws ?_ r0 (hD3.keep (aH.laid nr)) λg o z _ g2 g3=>⟨kc g o z g3,g2,g3⟩
     rw[aA,List.length_append,List.length_map,hcl];show some (HO.lst [V.int 1,V.int (((st.made.length+1:Nat):Int)-1)])=some (HO.lst [V.int 1,V.int (st.made.length:Int)]);congr 5;lia
theorem RD {n d:Int}(hn:0<=n)(hd:1<=d)(bn:n<=10^18)(bd:d<=10^18):S6 (frac n d.toNat):=by
 have dp:0<d.toNat:=by lia
 have g1:0<Nat.gcd n.natAbs d.toNat:=Nat.gcd_pos_of_pos_right _ dp;refine ⟨cF dp,?_,?_,?_⟩
 ·rw[dS dp];exact Int.ediv_nonneg hn (by lia)
 ·rw[dS dp];exact Int.le_trans (Int.ediv_le_self _ hn) bn
 ·rw[dS dp];show d.toNat / _<=_;exact Nat.le_trans (Nat.div_le_self _ _) (by lia)
theorem JW (ws:List RW)(v:Nat)(x:RW):bT (ws.set v x)=(bT ws).set v x.spec:=List.map_set ..
inductive HS (K:PySem.W.Frag) (CD CC CW:Addr) (us:List V) (H:Hp) (Q:VK) (E:XK):Prop
 | mk:∀ (gh d dx nm ch wl cl al:Addr) (s:Vaprbi.State) (ws:List RW) (v a b c e:Int),us=[.ref d,.ref al]->Dk K CD CC CW gh H d dx nm ch wl cl s ws->H al=some (.lst (bQ [v,a,b,c,e]))->al≠wl->(a<=10^18/\b<=10^18/\c<=10^18/\e<=10^18)->w9 K CD CC CW gh d wl cl H (weighAnswer s v a b c e).1 (VaprbiNeutral.encode (weighAnswer s v a b c e).2) Q->HS K CD CC CW us H Q E
theorem zG:aO ["desk","numbers","yes","no"] ["desk","numbers"] (aI (bO 4)):=by walk_at "s"
theorem MH {C CR CT CV CS CD CC CW CM f:Addr}{fd:FuncData}(N:oJ P w K mg base C CR CT CV CS CD CC CW CM)(F:Def K mg "answer_weigh" (bO 4) ["desk","numbers"] f fd):aN P w K mg base CX0 4 f fd ["desk","numbers"] (HS K CD CC CW):=by
 obtain ⟨g1,d1,G1⟩:=N.hv;obtain ⟨g2,d2,G2⟩:=N.rat.low;obtain ⟨g3,d3,G3⟩:=N.rat.gcd;obtain ⟨g4,d4,G4⟩:=N.wof;obtain ⟨fW,wd,WC⟩:=N.hg.WC;have T:=N.T;have O1:aN P w K mg base CX0 1 g1 d1 ["self","number"] (zP CD):=GH T G1;have O2:aN P w K mg base CX0 2 g2 d2 ["top","bottom"] C4:=DW N.rat.ab G2 G3;have O4:aN P w K mg base CX0 3 g4 d4 ["yes","no"] (oE CW):=BH N.rat WC G4;refine F.fn.ok zG (λus H Q E h=>?_) (λcdv A outer s H us Q E hr h=>?_)
 ·walk_at "l"
 ·obtain ⟨gh,d,dx,nm,ch,wl,cl,al,st,ws,v,a,b,c,e,rfl,hD,hal,nal,⟨b1,b2,b3,b4⟩,q⟩:=h
  refine ⟨_,aG (bC (gJ (cE (bA (pv 0) T.cl G1.me O1 (hr.mono (by decide)) G1.bd .nil aR (a9 (aK aL (pv 1) aF (λ_ _=>rfl)) aC)))) (aE (aP (bD (a9 (pgi N.nt) aC)))) aV)
   (aM (bC (PW.pt (kO (aT eZ (aK aL (pv 1) aF (λ_ _=>rfl)) aF (aY _)) (kO (aT eZ (aK aL (pv 1) aF (λ_ _=>rfl)) aF (aY _)) (kO (aT eZ (aK aL (pv 1) aF (λ_ _=>rfl)) aF (aY _)) (iJ (aT eZ (aK aL (pv 1) aF (λ_ _=>rfl)) aF (aY _))))))) (aE (aP (bD (a9 (pgi N.nt) aC)))) aV)
   (aG (aQ (i:=2) zG.nd rfl (Or.inl rfl) (aS O2 (hr.mono (by decide)) (by rfl) G2.at_ G2.fn.kp G2.bd .nil aR (a9 (aK aL (pv 1) aF (λ_ _=>rfl)) (a9 (aK aL (pv 1) aF (λ_ _=>rfl)) aC))))
   (aG (aQ (i:=3) zG.nd rfl (Or.inl rfl) (aS O2 (hr.mono (by decide)) (by rfl) G2.at_ G2.fn.kp G2.bd .nil aR (a9 (aK aL (pv 1) aF (λ_ _=>rfl)) (a9 (aK aL (pv 1) aF (λ_ _=>rfl)) aC))))
   (aG (rC (aS O4 hr (by rfl) G4.at_ G4.fn.kp G4.bd .nil aR (a9 (pv 2) (a9 (pv 3) aC))) (rA (aJ (pv 0) rfl) (aK aL (pv 1) aF (λ_ _=>rfl)) j8))
   (aE (aP (bD (a9 aF aC)))))))),?_⟩
  refine ⟨_,rfl,d,dx,_,rfl,hD.ob,(tS _ _ _ _).2.2.2,_,rfl,al,_,0,_,rfl,rfl,SqL.of hal,rfl,d,dx,nm,ch,wl,cl,v,_,rfl,hD.ob,hD.nms,_,rfl,?_⟩;rw[nF]
  have qs:∀ (x:Vaprbi.Answer),weighAnswer st v a b c e=(st,x)->∀ r,H r=none->bQ (VaprbiNeutral.encode x)=[.int (-5)]->Q (.ref r) (upd H r (.lst [.int (-5)])):=λx ex r nr er=>by
   rw[ex] at q;exact q r _ dx nm ch wl cl ws (by rw[aA,er]) nr (hD.keep (aH.laid nr)) (sO.of (aH.laid nr))
  by_cases hv:0<=v/\v<(st.vars.length:Int)
  ·refine itF (by rw[decide_eq_true hv];decide) ?_
   have ew:weighAnswer st v a b c e=if a<0∨b<1∨c<0∨e<1 then (st,Vaprbi.refused (-5)) else ({ st with weights:=st.weights.set v.toNat ⟨frac a b.toNat,frac c e.toNat⟩ },{ value:=1 }):=by
    unfold weighAnswer;rw[iS,if_pos hv]
   refine ⟨λσ' H'=>σ'=[some (.ref d),some (.ref al),none,none]/\H'=H/\0<=a/\1<=b/\0<=c/\1<=e,?_,?_⟩
   ·have no:¬ (0<=a/\1<=b/\0<=c/\1<=e)->∀ r,H r=none->Q (.ref r) (upd H r (.lst [.int (-5)])):=λz r nr=>qs _ (by rw[ew,if_pos (by lia)]) r nr rfl;refine ⟨_,rfl,al,_,1,_,rfl,rfl,SqL.of hal,rfl,_,_,rfl,rfl,_,rfl,?_⟩
    by_cases h1:a<0
    ·exact itT (decide_eq_true h1) (itT rfl ⟨by show 1<=sizeLine;decide,λr nr=>no (by lia) r nr⟩)
    refine itF (by simpa using h1) ?_;refine ⟨_,rfl,al,_,2,_,rfl,rfl,SqL.of hal,rfl,_,_,rfl,rfl,_,rfl,?_⟩
    by_cases h2:b<1
    ·exact itT (decide_eq_true h2) (itT rfl ⟨by show 1<=sizeLine;decide,λr nr=>no (by lia) r nr⟩)
    refine itF (by simpa using h2) ?_;refine ⟨_,rfl,al,_,3,_,rfl,rfl,SqL.of hal,rfl,_,_,rfl,rfl,_,rfl,?_⟩
    by_cases h3:c<0
    ·exact itT (decide_eq_true h3) (itT rfl ⟨by show 1<=sizeLine;decide,λr nr=>no (by lia) r nr⟩)
    refine itF (by simpa using h3) ?_;refine ⟨_,rfl,al,_,4,_,rfl,rfl,SqL.of hal,rfl,_,_,rfl,rfl,_,rfl,?_⟩
    by_cases h4:e<1
    ·exact itT (decide_eq_true h4) ⟨by show 1<=sizeLine;decide,λr nr=>no (by lia) r nr⟩
    refine itF (by simpa using h4) ?_;exact ⟨rfl,rfl,by lia,by lia,by lia,by lia⟩
   ·rintro σ1 H1 ⟨rfl,rfl,ha,hb,hc,he⟩;rw[ew,if_neg (by lia)] at q
    obtain ⟨v,rfl⟩:∃ i:Nat,v=(i:Nat):=⟨v.toNat,by lia⟩
    obtain ⟨a,rfl⟩:∃ i:Nat,a=(i:Nat):=⟨a.toNat,by lia⟩
    obtain ⟨b,rfl⟩:∃ i:Nat,b=(i:Nat):=⟨b.toNat,by lia⟩
    obtain ⟨c,rfl⟩:∃ i:Nat,c=(i:Nat):=⟨c.toNat,by lia⟩
    obtain ⟨e,rfl⟩:∃ i:Nat,e=(i:Nat):=⟨e.toNat,by lia⟩
    have e18:(10:Nat)^18<2^60:=by decide +kernel
    have f1:=RD (n:=(a:Nat)) (d:=(b:Nat)) ha hb b1 b2;have f2:=RD (n:=(c:Nat)) (d:=(e:Nat)) hc he b3 b4;rw[Int.toNat_natCast] at f1 f2;simp only[Int.toNat_natCast] at q;refine ⟨_,rfl,al,_,1,_,rfl,rfl,SqL.of hal,rfl,_,rfl,al,_,2,_,rfl,rfl,SqL.of hal,rfl,a,b,rfl,by lia,yF (k:=60) (by lia) (by decide),λp1 n1=>?_⟩;have k1:aH [] H1 (upd H1 p1 (AO (frac a b))):=aH.laid n1;have hal1:=k1 _ _ hal (by simp);refine ⟨_,rfl,al,_,3,_,rfl,rfl,SqL.of hal1,rfl,_,rfl,al,_,4,_,rfl,rfl,SqL.of hal1,rfl,c,e,rfl,by lia,yF (k:=60) (by lia) (by decide),λp2 n2=>?_⟩;have k2:aH [] (upd H1 p1 (AO (frac a b))) (upd (upd H1 p1 (AO (frac a b))) p2 (AO (frac c e))):=aH.laid n2;refine ⟨_,rfl,_,rfl,p1,p2,frac a b,frac c e,rfl,k2 _ _ aA (by simp),aA,f1,f2,λt H3 ht nt k3=>?_⟩;have k13:=(k1.trans k2).trans k3;have hD3:=hD.keep k13;have hal3:=k13 _ _ hal (by simp);obtain ⟨was,hw1,hw2⟩:=hD3.wts;have hvn:v<ws.length:=by rw[hD.wlen];lia
    refine ⟨_,rfl,d,CD,dx,_,_,rfl,hD3.ob,T.cl,T.nW,cW _ _ _ _,_,rfl,al,_,0,_,rfl,rfl,SqL.of hal3,rfl,wl,_,_,v,rfl,rfl,hw1,pD (by rw[List.length_map,bB hw2];exact hvn),by show 1<=sizeLine;decide,λr nr=>?_⟩;have hob:(upd H3 wl (.lst ((was.map V.ref).set v (V.ref t)))) d=some (.ins CD dx (dkF nm ch wl cl)):=by rw[aB (bI hD3.ob hw1 (by intro z;cases z))];exact hD3.ob
    have r0:H1 r=none:=by
     have:r≠wl:=λz=>by rw[z,aA] at nr;cases nr
     rw[aB this] at nr;exact k13.none nr (by simp)
    obtain ⟨e1,e2,e3,e4,e5⟩:=hD.ne;obtain ⟨cs2,hx1,hx2⟩:=hD3.crs;obtain ⟨sp,wb⟩:=O9 f1.norm f2.norm f1.nn f2.nn f1.b1 f1.b2 f2.b1 f2.b2;obtain ⟨go,hgo⟩:=hD.gs
    have hD4:Dk K CD CC CW gh (upd H3 wl (.lst ((was.map V.ref).set v (V.ref t)))) d dx nm ch wl cl { st with weights:=st.weights.set v ⟨frac a b,frac c e⟩ } (ws.set v (xJ (frac a b) (frac c e))):={
     ob:=hob
     nms:=by rw[aB e1];exact hD3.nms
     chs:=hD3.chs.updL hw1 e3
     wts:=⟨was.set v t,by rw[aA,List.map_set],jU (Paired.mapP hw2 λ_ _ z=>z.lst hw1) (ht.lst hw1)⟩
     spec:=by rw[JW,sp,hD.spec]
     wb:=hD.wb.set wb
     wlen:=by rw[List.length_set];exact hD.wlen
     vok:=hD.vok
     v12:=hD.v12
     crs:=⟨cs2,by rw[aB (Ne.symm e5)];exact hx1,Paired.mapP hx2 λ_ _ ⟨nl',a1,a2,a3,z⟩=>⟨nl',a1,a2,a3,z.updL hw1 a2⟩⟩
     mok:=hD.mok
     m16:=hD.m16
     ne:=hD.ne
     gs:=⟨go,by rw[aB hD.ng.2.2.1];exact k13 _ _ hgo (by simp)⟩
     gd:=hD.gd
     ng:=hD.ng }
    refine q r _ dx nm ch wl cl _ aA r0 (hD4.keep (aH.laid nr)) λg o z _ g2 g3=>⟨?_,g2,g3⟩
    have z3:=k13 _ _ z (by simp);have z4:(upd H3 wl (.lst ((was.map V.ref).set v (V.ref t)))) g=some o:=by rw[aB g2];exact z3
    rw[aB (aD z4 nr)];exact z4
  ·refine itT (by rw[decide_eq_false hv];rfl) ?_;exact ⟨by show 1<=sizeLine;decide,λr nr=>qs (Vaprbi.refused (-5)) (by unfold weighAnswer;rw[iS,if_neg hv]) r nr rfl⟩
inductive HN (K:PySem.W.Frag) (CD CC CW:Addr) (us:List V) (H:Hp) (Q:VK) (E:XK):Prop
 | mk:∀ (gh d dx nm ch wl cl al:Addr) (s:Vaprbi.State) (ws:List RW),us=[.ref d,.ref al]->Dk K CD CC CW gh H d dx nm ch wl cl s ws->w9 K CD CC CW gh d wl cl H { s with weights:=byChances s.vars } [1] Q->HN K CD CC CW us H Q E
theorem QD:aO ["desk","numbers"] ["desk","numbers"] (aI (bO 5)):=by walk_at "s"
theorem LY {C CR CT CV CS CD CC CW CM f:Addr}{fd:FuncData}(N:oJ P w K mg base C CR CT CV CS CD CC CW CM)(F:Def K mg "answer_clear" (bO 5) ["desk","numbers"] f fd):aN P w K mg base CX0 6 f fd ["desk","numbers"] (HN K CD CC CW):=by
 obtain ⟨g1,d1,G1⟩:=N.hg.wbc;have T:=N.T;have O1:aN P w K mg base CX0 4 g1 d1 ["self"] (HR CD CW):=MF N.hg.nc T N.hg.WC N.hg.BC G1;refine F.fn.ok QD (λus H Q E h=>?_) (λcdv A outer s H us Q E hr h=>?_)
 ·walk_at "l"
 ·obtain ⟨gh,d,dx,nm,ch,wl,cl,al,st,ws,rfl,hD,q⟩:=h;refine ⟨_,aG (bE (c6 (pv 0) T.cl G1.me O1 (hr.mono (by decide)) G1.bd .nil aR)) (aE (aP (bD (a9 aF aC)))),?_⟩;refine ⟨_,rfl,d,dx,_,rfl,hD.ob,(tS _ _ _ _).1,d,dx,nm,ch,wl,cl,st.vars,rfl,hD.ob,hD.chs,hD.v12,hD.vok.ch,λt H1 e1 ht nt k1=>?_⟩;refine ⟨by show 1<=sizeLine;decide,λr nr=>?_⟩;have hnm:=hD.nms;obtain ⟨cas,hch,hcp⟩:=hD.chs;obtain ⟨cs,hc1,hc2⟩:=hD.crs;have md:∀ {b:Addr} {xs:List V},H b=some (.lst xs)->b≠d:=λz=>bI z hD.ob (by intro z;cases z);have mt:∀ {b:Addr} {xs:List V},H b=some (.tup xs)->b≠d:=λz=>bI z hD.ob (by intro z;cases z);have k0:∀ b o,H b=some o->b≠d->H1 b=some o:=λb o z nb=>k1 b o z (by simpa using nb)
  have r0:H r=none:=by
   cases z:H r with
   | none=>rfl
   | some o=>
    by_cases e:r=d
    ·subst e;rw[e1] at nr;cases nr
    ·rw[k0 r o z e] at nr;cases nr
  obtain ⟨sp1,sp2,sp3⟩:=FF hD.vok.ch;obtain ⟨n1,n2,n3,n4,n5⟩:=hD.ne;obtain ⟨go,hgo⟩:=hD.gs
  have hD1:Dk K CD CC CW gh H1 d dx nm ch t cl { st with weights:=byChances st.vars } (tQ st.vars):={
   ob:=e1
   nms:=k0 _ _ hnm (md hnm)
   chs:=⟨cas,k0 _ _ hch (md hch),Paired.mapP hcp λ_ _ z=>k0 _ _ z (mt z)⟩
   wts:=ht
   spec:=sp1
   wb:=sp2
   wlen:=sp3
   vok:=hD.vok
   v12:=hD.v12
   crs:=⟨cs,k0 _ _ hc1 (md hc1),Paired.mapP hc2 λ_ _ ⟨nl',a1,a2,a3,⟨dy,z1⟩,as,z2,z3⟩=>⟨nl',a1,aD z2 nt,a3,⟨dy,k0 _ _ z1 (bI z1 hD.ob (by intro z;injection z with z;exact N.ncc z.symm))⟩,as,k0 _ _ z2 (md z2),Paired.mapP z3 λx n y=>y.keep k1 λg hg zs e=>by
    have:g=d:=by simpa using hg
    subst this;rw[hD.ob] at e
    cases e⟩⟩
   mok:=hD.mok
   m16:=hD.m16
   ne:=⟨aD hnm nt,n2,aD hch nt,n4,(aD hc1 nt).symm⟩
   gs:=⟨go,k0 _ _ hgo hD.gd⟩
   gd:=hD.gd
   ng:=⟨hD.ng.1,hD.ng.2.1,aD hgo nt,hD.ng.2.2.2⟩ }
  refine q r _ dx nm ch t cl _ aA r0 (hD1.keep (aH.laid nr)) λg o z g1 g2 g3=>⟨?_,aD z nt,g3⟩
  have z1:=k0 _ _ z g1;rw[aB (aD z1 nr)];exact z1
abbrev N1:Stmt:=top 124
def UD (P:Program)(w:World)(K:PySem.W.Frag)(mg:Str->Option Value)(base:Heap)(A:Around)(tf:TE)(t:TA):TE:=λσ H Q=>tf σ H λx H1=>∃ f,x=.ref f/\PySem.W.keepIn K (.ref f)=true/\t σ H1 λvs H2=>∃ k fd ps sp,aN P w K mg base CX0 k f fd ps sp/\cI k A/\cZ K fd ps []/\sp vs H2 Q E0
theorem MM {X:Cx}{fe e:Expr}{es:List Expr}{pos:Pos}{tf:TE}{t:TA}(hf:PE X fe tf)(ha:PA X (e::es) t)(he:starEach (e::es) X.env=(false,eval e X.env)::starEach es X.env:=by rfl)(hpl:(backTo pos (starEach es X.env)).any (·.1)=false:=by rfl)
  (hc:eval (.Call fe (e::es) [] pos) X.env=(do callWith pos (← eval fe X.env) [] (backTo pos (starEach (e::es) X.env)) (backToKw pos (keywordEach [] X.env))):=by rfl):
  PE X (.Call fe (e::es) [] pos) (UD X.prog X.w X.K X.mg X.base X.A tf t):=by
 intro pins s σ H Q I h;refine Call_ (thn (hf pins s σ H _ I h) λu s1 ⟨x,H1,I1,rx,f,ex,hk,q1⟩=>?_) hc;subst ex;obtain rfl:u=Value.ref f:=rx;refine PySem.W.callWith_K (h₀:=X.base) I1.ok.mod.kin hk (thn (ha pos pins s1 σ H1 _ I1 q1) λus s2 ⟨vs,H2,I2,r,k,fd,ps,sp,F,hr,hb,q⟩=>⟨I2.kIn,?_⟩) he hpl;exact yY (dvs:=[]) F hr hb .nil aR I2 r (by rw[List.append_nil];exact q)
def place:Vaprbi.Call->Nat
 | .vars _=>0
 | .add _=>1
 | .size _=>2
 | .node _ _=>3
 | .weigh _ _ _ _ _=>4
 | .clear=>5
 | .total _=>6
 | .value _ _=>7
 | .flow _ _=>8
 | .parts _=>9
 | .marginals _=>10
 | .together _ _ _=>11
 | .most _=>12
 | .ways _=>13
def fP (b:Bytes):List Int:=b.map λx=>(x.toNat:Int)
def row:Vaprbi.Call->List Int
 | .vars b=>fP b
 | .add b=>fP b
 | .size i=>[i]
 | .node i k=>[i,k]
 | .weigh v a b c d=>[v,a,b,c,d]
 | .clear=>[]
 | .total i=>[i]
 | .value i k=>[i,k]
 | .flow i k=>[i,k]
 | .parts i=>[i]
 | .marginals i=>[i]
 | .together i u v=>[i,u,v]
 | .most i=>[i]
 | .ways i=>[i]
def DE:Vaprbi.Call->Option Int
 | .size i=>some i
 | .node i _=>some i
 | .total i=>some i
 | .value i _=>some i
 | .flow i _=>some i
 | .parts i=>some i
 | .marginals i=>some i
 | .together i _ _=>some i
 | .most i=>some i
 | .ways i=>some i
 | _=>none
def qN:Vaprbi.Call->Prop
 | .vars b=>b.length<=8192
 | .add b=>b.length<=8192
 | .weigh _ a b c d=>a<=10^18/\b<=10^18/\c<=10^18/\d<=10^18
 | _=>True
def iO:List V:=[.int 2,.int 3,.int 6,.int 7,.int 8,.int 9,.int 10,.int 11,.int 12,.int 13]
theorem OX (c:Vaprbi.Call):inV (.int (place c:Nat)) iO=(DE c).isSome:=by
 cases c<;>first|rfl|decide
theorem MY {c:Vaprbi.Call}{i:Int}(h:DE c=some i):∃ rest,row c=i::rest:=by
 cases c<;>first|(cases h;exact ⟨_,rfl⟩)|cases h
theorem JX {s:Vaprbi.State}(h:s.vars=[]){c:Vaprbi.Call}(hc:place c≠0):Vaprbi.step s c=(s,Vaprbi.refused (-1)):=by
 cases c<;>first|exact absurd rfl hc|(unfold Vaprbi.step;simp only[h,if_true])
theorem d8 {s:Vaprbi.State}(h:s.vars≠[]){c:Vaprbi.Call}{i:Int}(hc:DE c=some i):Vaprbi.step s c=(s,looked s c):=by
 cases c<;>first|(cases hc;done)|(unfold Vaprbi.step;simp only[h,if_false])
theorem E2 {c:Vaprbi.Call}{i:Int}(h:DE c=some i):place c≠0:=by
 cases c<;>first|(cases h;done)|(intro z;cases z)
theorem IY {s:Vaprbi.State}{c:Vaprbi.Call}{i:Int}(hc:DE c=some i)(h:¬ (0<=i/\i<(s.made.length:Int))):looked s c=Vaprbi.refused (-2):=by
 have wm:∀ g,withMade s i g=Vaprbi.refused (-2):=λg=>by
  unfold withMade;rw[iS,if_neg h];rfl
 have wn:∀ k g,withNode s i k g=Vaprbi.refused (-2):=λk g=>wm _
 cases c<;>first|(cases hc;done)|(cases hc;simp only[looked,wm,wn])
structure V3 (P:Program)(w:World)(K:PySem.W.Frag)(mg:Str->Option Value)(base:Heap)(C CR CT CV CS CD CC CW CM CG:Addr)(fs:Nat->Addr):Prop where
 lk:kL K mg CD CC CW CG
 cg:oJ P w K mg base C CR CT CV CS CD CC CW CM
 hc:∃ f fd,bN K CD "has_circuit" "Desk.has_circuit" (sDk 3) ["self","number"] f fd
 cv:GI mg "CALL_VARS" 0
 nv:GI mg "NO_VARIABLES" (-1)
 ncr:GI mg "NO_CIRCUIT" (-2)
 cc:GT K mg "CIRCUIT_CALLS" iO
 an:GT K mg "ANSWERERS" [.ref (fs 0),.ref (fs 1),.ref (fs 2),.ref (fs 3),.ref (fs 4),.ref (fs 5),.ref (fs 6),.ref (fs 7),.ref (fs 8),.ref (fs 9),.ref (fs 10),.ref (fs 11),.ref (fs 12),.ref (fs 13)]
 f0:∃ fd,Def K mg "answer_vars" (bO 0) ["desk","text"] (fs 0) fd
 f1:∃ fd,Def K mg "answer_add" (bO 1) ["desk","text"] (fs 1) fd
 f2:∃ fd,Def K mg "answer_size" (bO 2) ["desk","numbers"] (fs 2) fd
 f3:∃ fd,Def K mg "answer_node" (bO 3) ["desk","numbers"] (fs 3) fd
 f4:∃ fd,Def K mg "answer_weigh" (bO 4) ["desk","numbers"] (fs 4) fd
 f5:∃ fd,Def K mg "answer_clear" (bO 5) ["desk","numbers"] (fs 5) fd
 f6:∃ fd,Def K mg "answer_total" (bO 6) ["desk","numbers"] (fs 6) fd
 f7:∃ fd,Def K mg "answer_value" (bO 7) ["desk","numbers"] (fs 7) fd
 f8:∃ fd,Def K mg "answer_flow" (bO 8) ["desk","numbers"] (fs 8) fd
 f9:∃ fd,Def K mg "answer_parts" (bO 9) ["desk","numbers"] (fs 9) fd
 f10:∃ fd,Def K mg "answer_marginals" (bO 10) ["desk","numbers"] (fs 10) fd
 f11:∃ fd,Def K mg "answer_together" (bO 11) ["desk","numbers"] (fs 11) fd
 f12:∃ fd,Def K mg "answer_most" (bO 12) ["desk","numbers"] (fs 12) fd
 f13:∃ fd,Def K mg "answer_ways" (bO 13) ["desk","numbers"] (fs 13) fd
inductive NO (K:PySem.W.Frag) (CD CC CW:Addr) (us:List V) (H:Hp) (Q:VK) (E:XK):Prop
 | mk:∀ (gh d dx nm ch wl cl al:Addr) (s:Vaprbi.State) (ws:List RW) (c:Vaprbi.Call),us=[.ref d,.int (place c:Nat),.ref al]->Dk K CD CC CW gh H d dx nm ch wl cl s ws->H al=some (.lst (bQ (row c)))->al≠wl->qN c->w9 K CD CC CW gh d wl cl H (Vaprbi.step s c).1 (VaprbiNeutral.encode (Vaprbi.step s c).2) Q->NO K CD CC CW us H Q E
theorem WE:aO ["desk","call","numbers"] ["desk","call","numbers"] (aI N1):=by walk_at "s"
theorem FH {H:Hp}{al:Addr}{b:Bytes}(h:H al=some (.lst (bQ (fP b)))):TxL K H al b:=by
 unfold TxL;refine SqL.of ?_;rw[h];unfold bQ fP;rw[List.map_map];rfl
theorem fR {CD CC CW gh d dx nm ch wl cl al:Addr}{H:Hp}{s:Vaprbi.State}{ws:List RW}{Q:VK}{call:Int->List Int->Vaprbi.Call}{k j:Nat}{rest:List Int}{f:Form}{m:Vaprbi.Made}(hD:Dk K CD CC CW gh H d dx nm ch wl cl s ws)(hal:H al=some (.lst (bQ ((j:Int)::rest))))(hl:rest.length=k)
  (hm:s.made[j]?=some (f,m)) (q:w9 K CD CC CW gh d wl cl H s (VaprbiNeutral.encode (looked s (call j rest))) Q):sR K CD CC CW call k [.ref d,.ref al] H Q E0:=
 ⟨gh,d,dx,nm,ch,wl,cl,al,s,ws,j,rest,f,m,rfl,hD,hal,hl,hm,λr H' e nr kk=>q r H' dx nm ch wl cl ws e nr (hD.keep kk) (sO.of kk)⟩
theorem T7 {C CR CT CV CS CD CC CW CM CG f:Addr}{fs:Nat->Addr}{fd:FuncData}(N:V3 P w K mg base C CR CT CV CS CD CC CW CM CG fs)(F:Def K mg "answer_one" N1 ["desk","call","numbers"] f fd):aN P w K mg base CX0 56 f fd ["desk","call","numbers"] (NO K CD CC CW):=by
 obtain ⟨g1,d1,G1⟩:=N.hc;obtain ⟨acc,mcc,scc⟩:=N.cc;obtain ⟨aan,man,san⟩:=N.an;have T:=N.lk.T;have O1:aN P w K mg base CX0 1 g1 d1 ["self","number"] (EN CD):=PH T G1;refine F.fn.ok WE (λus H Q E h=>?_) (λcdv A outer s H us Q E hr h=>?_)
 ·walk_at "l"
 ·obtain ⟨gh,d,dx,nm,ch,wl,cl,al,st,ws,c,rfl,hD,hal,nal,hok,q⟩:=h;obtain ⟨cs,hc1,hc2⟩:=hD.crs;have hcl:cs.length=st.made.length:=bB hc2
  refine ⟨_,aM (bC (PW.pt (jZ (aT GO (pv 1) (pgi N.cv) (aY _)) (gV (aT bV (b9 aU (by rfl) T.len PySem.boot_len (a9 (aJ (pv 0) rfl) aC)) aF (aY _))))) (aE (aP (bD (a9 (pgi N.nv) aC)))) aV)
   (aM (bC (PW.pt (jZ (aT mD (pv 1) (pgr mcc) (by with_unfolding_all rfl)) (gV (gJ (cE (bA (pv 0) T.cl G1.me O1 (hr.mono (by decide)) G1.bd .nil aR (a9 (aK aL (pv 2) aF (λ_ _=>rfl)) aC))))))) (aE (aP (bD (a9 (pgi N.ncr) aC)))) aV)
   (aE (aP (MM (aK aW (pgr man) (pv 1) (λ_ _=>rfl)) (a9 (pv 0) (a9 (pv 2) aC)))))),?_⟩
  refine ⟨λσ' H'=>σ'=[some (.ref d),some (.int (place c:Nat)),some (.ref al)]/\H'=H/\(place c=0∨st.vars≠[]),?_,?_⟩
  ·refine ⟨_,rfl,rfl,_,rfl,?_⟩
   by_cases h0:place c=0
   ·refine itF (by rw[h0];decide) (itF (by decide) ?_);exact ⟨rfl,rfl,.inl h0⟩
   ·refine itT (by show (!decide (V.int ((place c:Nat):Int)=V.int 0))=true;rw[cV,decide_eq_false (by lia)];rfl) ?_;refine ⟨_,rfl,d,CD,dx,_,_,rfl,hD.ob,T.cl,T.nN,hJ _ _ _ _,nm,_,rfl,.inl (SqL.of hD.nms),rfl,_,rfl,?_⟩;rw[nF]
    by_cases hv:st.vars=[]
    ·rw[JX hv h0] at q;refine itT (by rw[hv];decide) ?_;exact ⟨by show 1<=sizeLine;decide,λr nr=>q r _ dx nm ch wl cl ws aA nr (hD.keep (aH.laid nr)) (sO.of (aH.laid nr))⟩
    ·refine itF (by rw[cV];simp only[decide_eq_true_eq];intro z;exact hv (List.length_eq_zero_iff.mp (by lia))) ?_;exact ⟨rfl,rfl,.inr hv⟩
  ·rintro σ1 H1 ⟨rfl,rfl,hv⟩;refine ⟨λσ' H'=>σ'=[some (.ref d),some (.int (place c:Nat)),some (.ref al)]/\H'=H1/\∀ i,DE c=some i->∃ (j:Nat) (fo:Form) (m:Vaprbi.Made),i=(j:Nat)/\st.made[j]?=some (fo,m),?_,?_⟩
   ·refine ⟨_,rfl,acc,iO,rfl,.inr (GT.sq scc),rfl,rfl,_,rfl,?_⟩
    show if (if false=true then _ else inV (.int (place c:Nat)) iO)=true then _ else _
    rw[if_neg Bool.false_ne_true,OX]
    cases hci:DE c with
    | none=>
     refine itF (by decide) (itF (by decide) ?_);exact ⟨rfl,rfl,λi e=>by cases e⟩
    | some i=>
     refine itT rfl ?_;obtain ⟨rest,er⟩:=MY hci;rw[er] at hal;have a0:atI (bQ (i::rest)) 0=some (.int i):=aX (j:=0) rfl;refine ⟨_,rfl,d,dx,_,rfl,hD.ob,(tS _ _ _ _).2.2.1,_,rfl,al,_,0,_,rfl,rfl,SqL.of hal,a0,d,dx,nm,ch,wl,cl,i,_,rfl,hD.ob,hc1,_,rfl,?_⟩;rw[List.length_map,hcl];have h0:place c≠0:=E2 hci;have hv':=hv.resolve_left h0
     by_cases hi:0<=i/\i<(st.made.length:Int)
     ·refine itF (by rw[decide_eq_true hi];decide) ?_;refine ⟨rfl,rfl,λi' e=>?_⟩;cases e
      obtain ⟨j,rfl⟩:∃ j:Nat,i=(j:Nat):=⟨i.toNat,by lia⟩
      have hj:j<st.made.length:=by lia
      exact ⟨j,st.made[j].1,st.made[j].2,rfl,List.getElem?_eq_getElem hj⟩
     ·rw[d8 hv' hci,IY hci hi] at q;refine itT (by rw[decide_eq_false hi];rfl) ?_;exact ⟨by show 1<=sizeLine;decide,λr nr=>q r _ dx nm ch wl cl ws aA nr (hD.keep (aH.laid nr)) (sO.of (aH.laid nr))⟩
   ·rintro σ2 H2 ⟨rfl,rfl,hci⟩;have O55:∀ {k:Nat},k<=55->cI k _:=λh=>hr.mono h
    cases c with
    | vars b=>
     obtain ⟨fd0,D0⟩:=N.f0;exact ⟨_,rfl,aan,_,_,_,rfl,rfl,GT.sq san,rfl,fs 0,rfl,D0.fn.kp,_,rfl,_,rfl,9,fd0,_,_,PV N.cg D0,O55 (by decide),D0.bd,gh,d,dx,nm,ch,wl,cl,al,st,ws,b,rfl,hD,FH hal,hok,q⟩
    | add b=>
     obtain ⟨fd0,D0⟩:=N.f1;have hv':st.vars≠[]:=hv.resolve_left (by show ¬ (1=0);decide);rw[JY hv'] at q;exact ⟨_,rfl,aan,_,_,_,rfl,rfl,GT.sq san,rfl,fs 1,rfl,D0.fn.kp,_,rfl,_,rfl,55,fd0,_,_,SV N.cg D0,O55 (by decide),D0.bd,gh,d,dx,nm,ch,wl,cl,al,st,ws,b,rfl,hD,FH hal,hok,q⟩
    | size i=>
     obtain ⟨fd0,D0⟩:=N.f2;have hv':st.vars≠[]:=hv.resolve_left (by show ¬ (2=0);decide);obtain ⟨j,fo,m,rfl,hm⟩:=hci i rfl;rw[d8 hv' (i:=(j:Int)) rfl] at q;exact ⟨_,rfl,aan,_,_,_,rfl,rfl,GT.sq san,rfl,fs 2,rfl,D0.fn.kp,_,rfl,_,rfl,_,fd0,_,_,PR N.lk D0,O55 (by decide),D0.bd,fR hD hal rfl hm q⟩
    | node i k=>
     obtain ⟨fd0,D0⟩:=N.f3;have hv':st.vars≠[]:=hv.resolve_left (by show ¬ (3=0);decide);obtain ⟨j,fo,m,rfl,hm⟩:=hci i rfl;rw[d8 hv' (i:=(j:Int)) rfl] at q;exact ⟨_,rfl,aan,_,_,_,rfl,rfl,GT.sq san,rfl,fs 3,rfl,D0.fn.kp,_,rfl,_,rfl,_,fd0,_,_,PM N.lk D0,O55 (by decide),D0.bd,fR hD hal rfl hm q⟩
    | weigh v a b x y=>
     obtain ⟨fd0,D0⟩:=N.f4;have hv':st.vars≠[]:=hv.resolve_left (by show ¬ (4=0);decide)
     have e:Vaprbi.step st (.weigh v a b x y)=weighAnswer st v a b x y:=by
      unfold Vaprbi.step;simp only[hv',if_false]
     rw[e] at q;exact ⟨_,rfl,aan,_,_,_,rfl,rfl,GT.sq san,rfl,fs 4,rfl,D0.fn.kp,_,rfl,_,rfl,_,fd0,_,_,MH N.cg D0,O55 (by decide),D0.bd,gh,d,dx,nm,ch,wl,cl,al,st,ws,v,a,b,x,y,rfl,hD,hal,nal,hok,q⟩
    | clear=>
     obtain ⟨fd0,D0⟩:=N.f5;have hv':st.vars≠[]:=hv.resolve_left (by show ¬ (5=0);decide)
     have e:Vaprbi.step st .clear=({ st with weights:=byChances st.vars },{ value:=1 }):=by
      unfold Vaprbi.step;simp only[hv',if_false]
     rw[e] at q;exact ⟨_,rfl,aan,_,_,_,rfl,rfl,GT.sq san,rfl,fs 5,rfl,D0.fn.kp,_,rfl,_,rfl,_,fd0,_,_,LY N.cg D0,O55 (by decide),D0.bd,gh,d,dx,nm,ch,wl,cl,al,st,ws,rfl,hD,q⟩
    | total i=>
     obtain ⟨fd0,D0⟩:=N.f6;have hv':st.vars≠[]:=hv.resolve_left (by show ¬ (6=0);decide);obtain ⟨j,fo,m,rfl,hm⟩:=hci i rfl;rw[d8 hv' (i:=(j:Int)) rfl] at q;exact ⟨_,rfl,aan,_,_,_,rfl,rfl,GT.sq san,rfl,fs 6,rfl,D0.fn.kp,_,rfl,_,rfl,_,fd0,_,_,MB N.lk D0,O55 (by decide),D0.bd,fR hD hal rfl hm q⟩
    | value i k=>
     obtain ⟨fd0,D0⟩:=N.f7;have hv':st.vars≠[]:=hv.resolve_left (by show ¬ (7=0);decide);obtain ⟨j,fo,m,rfl,hm⟩:=hci i rfl;rw[d8 hv' (i:=(j:Int)) rfl] at q;exact ⟨_,rfl,aan,_,_,_,rfl,rfl,GT.sq san,rfl,fs 7,rfl,D0.fn.kp,_,rfl,_,rfl,_,fd0,_,_,MD N.lk D0,O55 (by decide),D0.bd,fR hD hal rfl hm q⟩
    | flow i k=>
     obtain ⟨fd0,D0⟩:=N.f8;have hv':st.vars≠[]:=hv.resolve_left (by show ¬ (8=0);decide);obtain ⟨j,fo,m,rfl,hm⟩:=hci i rfl;rw[d8 hv' (i:=(j:Int)) rfl] at q;exact ⟨_,rfl,aan,_,_,_,rfl,rfl,GT.sq san,rfl,fs 8,rfl,D0.fn.kp,_,rfl,_,rfl,_,fd0,_,_,PD N.lk D0,O55 (by decide),D0.bd,fR hD hal rfl hm q⟩
    | parts i=>
     obtain ⟨fd0,D0⟩:=N.f9;have hv':st.vars≠[]:=hv.resolve_left (by show ¬ (9=0);decide);obtain ⟨j,fo,m,rfl,hm⟩:=hci i rfl;rw[d8 hv' (i:=(j:Int)) rfl] at q;exact ⟨_,rfl,aan,_,_,_,rfl,rfl,GT.sq san,rfl,fs 9,rfl,D0.fn.kp,_,rfl,_,rfl,_,fd0,_,_,J8 N.lk D0,O55 (by decide),D0.bd,fR hD hal rfl hm q⟩
    | marginals i=>
     obtain ⟨fd0,D0⟩:=N.f10;have hv':st.vars≠[]:=hv.resolve_left (by show ¬ (10=0);decide);obtain ⟨j,fo,m,rfl,hm⟩:=hci i rfl;rw[d8 hv' (i:=(j:Int)) rfl] at q;exact ⟨_,rfl,aan,_,_,_,rfl,rfl,GT.sq san,rfl,fs 10,rfl,D0.fn.kp,_,rfl,_,rfl,_,fd0,_,_,PK N.lk D0,O55 (by decide),D0.bd,fR hD hal rfl hm q⟩
    | together i u v=>
     obtain ⟨fd0,D0⟩:=N.f11;have hv':st.vars≠[]:=hv.resolve_left (by show ¬ (11=0);decide);obtain ⟨j,fo,m,rfl,hm⟩:=hci i rfl;rw[d8 hv' (i:=(j:Int)) rfl] at q;exact ⟨_,rfl,aan,_,_,_,rfl,rfl,GT.sq san,rfl,fs 11,rfl,D0.fn.kp,_,rfl,_,rfl,_,fd0,_,_,BG N.lk D0,O55 (by decide),D0.bd,fR hD hal rfl hm q⟩
    | most i=>
     obtain ⟨fd0,D0⟩:=N.f12;have hv':st.vars≠[]:=hv.resolve_left (by show ¬ (12=0);decide);obtain ⟨j,fo,m,rfl,hm⟩:=hci i rfl;rw[d8 hv' (i:=(j:Int)) rfl] at q;exact ⟨_,rfl,aan,_,_,_,rfl,rfl,GT.sq san,rfl,fs 12,rfl,D0.fn.kp,_,rfl,_,rfl,_,fd0,_,_,PL N.lk D0,O55 (by decide),D0.bd,fR hD hal rfl hm q⟩
    | ways i=>
     obtain ⟨fd0,D0⟩:=N.f13;have hv':st.vars≠[]:=hv.resolve_left (by show ¬ (13=0);decide);obtain ⟨j,fo,m,rfl,hm⟩:=hci i rfl;rw[d8 hv' (i:=(j:Int)) rfl] at q;exact ⟨_,rfl,aan,_,_,_,rfl,rfl,GT.sq san,rfl,fs 13,rfl,D0.fn.kp,_,rfl,_,rfl,_,fd0,_,_,PX N.lk D0,O55 (by decide),D0.bd,fR hD hal rfl hm q⟩
end
end TC
namespace TC
open PySem PySem.Spec PyProof.Rows L2 XF VaprbBase Mth Vaprbi
def hU (k:Vaprbi.Call):Bool:=decide (place k<2)
def eR (k:Vaprbi.Call):List Int:=if hU k=true then (place k:Int)::((row k).length:Int)::row k else (place k:Int)::row k
theorem eI {sh:Int->Option (Nat×Nat)}{p:Int}{r t:List Int}{c:List (List Int)}{n:Nat}(hs:sh p=some (n,0))(h:PyFlat.call sh (p::r)=some (c,t)):n<=r.length/\c=[p::r.take n]/\t=r.drop n:=by
 unfold PyFlat.call at h;simp only[hs,PyFlat.rows] at h;split at h
 ·cases h
 ·simp only[Option.some.injEq,Prod.mk.injEq] at h;exact ⟨by lia,h.1.symm,h.2.symm⟩
theorem GX {sh:Int->Option (Nat×Nat)}{p:Int}{r t:List Int}{c:List (List Int)}(hs:sh p=some (0,1))(h:PyFlat.call sh (p::r)=some (c,t)):∃ b:List Int,r=(b.length:Int)::b++t/\c=[[p],b]:=by
 unfold PyFlat.call at h;simp only[hs,Nat.not_lt_zero,if_false,List.drop_zero,List.take_zero] at h
 cases r with
 | nil=>simp[PyFlat.rows,PyFlat.row] at h
 | cons m rr=>
  simp only[PyFlat.rows,PyFlat.row] at h
  by_cases hm:0<=m/\m.toNat<=rr.length
  ·rw[if_pos hm] at h;simp only[Option.some.injEq,Prod.mk.injEq] at h;refine ⟨rr.take m.toNat,?_,h.1.symm⟩;rw[← h.2,List.length_take,Nat.min_eq_left hm.2,List.cons_append,List.take_append_drop];congr 1;lia
  ·rw[if_neg hm] at h;cases h
theorem tR {b:List Int}(h:b.all (PyInside.within 0 255)=true):fP (VaprbiNeutral.bytesOf b)=b/\NeutralIO.bytes b=true/\(VaprbiNeutral.bytesOf b).length=b.length:=by
 refine ⟨?_,?_,List.length_map _⟩
 ·unfold fP VaprbiNeutral.bytesOf;rw[List.map_map]
  conv=>rhs;rw[← List.map_id b]
  refine List.map_congr_left λz hz=>?_
  have:=List.all_eq_true.mp h z hz
  unfold PyInside.within at this;simp only[Bool.and_eq_true,decide_eq_true_eq] at this;show (((UInt8.ofNat z.toNat).toNat:Nat):Int)=z;rw[UInt8.toNat_ofNat']
  have:z.toNat%256=z.toNat:=Nat.mod_eq_of_lt (by lia)
  show ((z.toNat%256:Nat):Int)=z;lia
 ·unfold NeutralIO.bytes;refine List.all_eq_true.mpr λz hz=>?_
  have:=List.all_eq_true.mp h z hz
  unfold PyInside.within at this;simpa using this
theorem x6 {r:List Int}(h:1<=r.length):∃ a,r.take 1=[a]:=by
 match r,h with
 | a::_,_=>exact ⟨a,rfl⟩
theorem LV {r:List Int}(h:2<=r.length):∃ a b,r.take 2=[a,b]:=by
 match r,h with
 | a::b::_,_=>exact ⟨a,b,rfl⟩
theorem VS {r:List Int}(h:3<=r.length):∃ a b c,r.take 3=[a,b,c]:=by
 match r,h with
 | a::b::c::_,_=>exact ⟨a,b,c,rfl⟩
theorem VT {r:List Int}(h:5<=r.length):∃ a b c d e,r.take 5=[a,b,c,d,e]:=by
 match r,h with
 | a::b::c::d::e::_,_=>exact ⟨a,b,c,d,e,rfl⟩
theorem IN {k:Vaprbi.Call}{p:Int}{r:List Int}{n:Nat}(hp:p=(place k:Nat))(ht:hU k=false)(hr:row k=r.take n):p::r=eR k++r.drop n:=by
 unfold eR;rw[ht,if_neg Bool.false_ne_true,hr,List.cons_append,List.take_append_drop,hp]
theorem DC {p:Int}{r t:List Int}{c:List (List Int)}(h:PyFlat.call PyVaprbi.shape (p::r)=some (c,t))(hb:PyInside.call PyVaprbi.bound c=true):
  ∃ k,VaprbiNeutral.callOf c=some k/\qN k/\p::r=eR k++t:=by
 have nn:∀ {n:Nat} {k:Vaprbi.Call},PyVaprbi.shape p=some (n,0)->p=(place k:Nat)->hU k=false->(n<=r.length->row k=r.take n)->(c=[p::r.take n]->VaprbiNeutral.callOf c=some k)->qN k->∃ k,VaprbiNeutral.callOf c=some k/\qN k/\p::r=eR k++t:=λ{n k} hs hp ht hr hc hk=>by
  obtain ⟨h1,h2,h3⟩:=eI hs h;exact ⟨k,hc h2,hk,by rw[h3];exact IN hp ht (hr h1)⟩
 by_cases p0:p=0
 ·subst p0;obtain ⟨b,e1,e2⟩:=GX (show PyVaprbi.shape 0=some (0,1) by decide) h;subst e2;have q:(decide (0<=b.length)&&decide (b.length<=8192)&&b.all (PyInside.within 0 255)&&true)=true:=hb;simp only[Bool.and_eq_true,decide_eq_true_eq,Bool.and_true] at q;obtain ⟨t1,t2,t3⟩:=tR q.2;refine ⟨.vars (VaprbiNeutral.bytesOf b),?_,?_,?_⟩
  ·show (if NeutralIO.bytes b=true then _ else _)=_;rw[if_pos t2]
  ·show (VaprbiNeutral.bytesOf b).length<=8192;rw[t3];exact q.1.2
  ·rw[e1];show _=(0:Int)::((fP (VaprbiNeutral.bytesOf b)).length:Int)::fP (VaprbiNeutral.bytesOf b)++t;rw[t1];rfl
 by_cases p1:p=1
 ·subst p1;obtain ⟨b,e1,e2⟩:=GX (show PyVaprbi.shape 1=some (0,1) by decide) h;subst e2;have q:(decide (0<=b.length)&&decide (b.length<=8192)&&b.all (PyInside.within 0 255)&&true)=true:=hb;simp only[Bool.and_eq_true,decide_eq_true_eq,Bool.and_true] at q;obtain ⟨t1,t2,t3⟩:=tR q.2;refine ⟨.add (VaprbiNeutral.bytesOf b),?_,?_,?_⟩
  ·show (if NeutralIO.bytes b=true then _ else _)=_;rw[if_pos t2]
  ·show (VaprbiNeutral.bytesOf b).length<=8192;rw[t3];exact q.1.2
  ·rw[e1];show _=(1:Int)::((fP (VaprbiNeutral.bytesOf b)).length:Int)::fP (VaprbiNeutral.bytesOf b)++t;rw[t1];rfl
 by_cases p2:p=2
 ·subst p2;obtain ⟨h1,h2,_⟩:=eI (show PyVaprbi.shape 2=some (1,0) by decide) h;obtain ⟨a,ea⟩:=x6 h1;exact nn (k:=.size a) (show PyVaprbi.shape 2=some (1,0) by decide) rfl rfl (λ_=>ea.symm) (λe=>by rw[e,ea];rfl) trivial
 by_cases p3:p=3
 ·subst p3;obtain ⟨h1,h2,_⟩:=eI (show PyVaprbi.shape 3=some (2,0) by decide) h;obtain ⟨a,b,ea⟩:=LV h1;exact nn (k:=.node a b) (show PyVaprbi.shape 3=some (2,0) by decide) rfl rfl (λ_=>ea.symm) (λe=>by rw[e,ea];rfl) trivial
 by_cases p4:p=4
 ·subst p4;obtain ⟨h1,h2,_⟩:=eI (show PyVaprbi.shape 4=some (5,0) by decide) h;obtain ⟨v,a,b,x,y,ea⟩:=VT h1;refine nn (k:=.weigh v a b x y) (show PyVaprbi.shape 4=some (5,0) by decide) rfl rfl (λ_=>ea.symm) (λe=>by rw[e,ea];rfl) ?_;rw[h2,ea] at hb;have q:((PyInside.within (-1000000000000000000) 1000000000000000000 v&&(PyInside.within (-1000000000000000000) 1000000000000000000 a&&(PyInside.within (-1000000000000000000) 1000000000000000000 b&&(PyInside.within (-1000000000000000000) 1000000000000000000 x&&(PyInside.within (-1000000000000000000) 1000000000000000000 y&&true)))))&&true)=true:=hb;unfold PyInside.within at q;simp only[Bool.and_eq_true,decide_eq_true_eq,Bool.and_true] at q;show a<=10^18/\b<=10^18/\x<=10^18/\y<=10^18;lia
 by_cases p5:p=5
 ·subst p5;exact nn (k:=.clear) (show PyVaprbi.shape 5=some (0,0) by decide) rfl rfl (λ_=>rfl) (λe=>by rw[e];rfl) trivial
 by_cases p6:p=6
 ·subst p6;obtain ⟨h1,h2,_⟩:=eI (show PyVaprbi.shape 6=some (1,0) by decide) h;obtain ⟨a,ea⟩:=x6 h1;exact nn (k:=.total a) (show PyVaprbi.shape 6=some (1,0) by decide) rfl rfl (λ_=>ea.symm) (λe=>by rw[e,ea];rfl) trivial
 by_cases p7:p=7
 ·subst p7;obtain ⟨h1,h2,_⟩:=eI (show PyVaprbi.shape 7=some (2,0) by decide) h;obtain ⟨a,b,ea⟩:=LV h1;exact nn (k:=.value a b) (show PyVaprbi.shape 7=some (2,0) by decide) rfl rfl (λ_=>ea.symm) (λe=>by rw[e,ea];rfl) trivial
 by_cases p8:p=8
 ·subst p8;obtain ⟨h1,h2,_⟩:=eI (show PyVaprbi.shape 8=some (2,0) by decide) h;obtain ⟨a,b,ea⟩:=LV h1;exact nn (k:=.flow a b) (show PyVaprbi.shape 8=some (2,0) by decide) rfl rfl (λ_=>ea.symm) (λe=>by rw[e,ea];rfl) trivial
 by_cases p9:p=9
 ·subst p9;obtain ⟨h1,h2,_⟩:=eI (show PyVaprbi.shape 9=some (1,0) by decide) h;obtain ⟨a,ea⟩:=x6 h1;exact nn (k:=.parts a) (show PyVaprbi.shape 9=some (1,0) by decide) rfl rfl (λ_=>ea.symm) (λe=>by rw[e,ea];rfl) trivial
 by_cases p10:p=10
 ·subst p10;obtain ⟨h1,h2,_⟩:=eI (show PyVaprbi.shape 10=some (1,0) by decide) h;obtain ⟨a,ea⟩:=x6 h1;exact nn (k:=.marginals a) (show PyVaprbi.shape 10=some (1,0) by decide) rfl rfl (λ_=>ea.symm) (λe=>by rw[e,ea];rfl) trivial
 by_cases p11:p=11
 ·subst p11;obtain ⟨h1,h2,_⟩:=eI (show PyVaprbi.shape 11=some (3,0) by decide) h;obtain ⟨a,b,d,ea⟩:=VS h1;exact nn (k:=.together a b d) (show PyVaprbi.shape 11=some (3,0) by decide) rfl rfl (λ_=>ea.symm) (λe=>by rw[e,ea];rfl) trivial
 by_cases p12:p=12
 ·subst p12;obtain ⟨h1,h2,_⟩:=eI (show PyVaprbi.shape 12=some (1,0) by decide) h;obtain ⟨a,ea⟩:=x6 h1;exact nn (k:=.most a) (show PyVaprbi.shape 12=some (1,0) by decide) rfl rfl (λ_=>ea.symm) (λe=>by rw[e,ea];rfl) trivial
 by_cases p13:p=13
 ·subst p13;obtain ⟨h1,h2,_⟩:=eI (show PyVaprbi.shape 13=some (1,0) by decide) h;obtain ⟨a,ea⟩:=x6 h1;exact nn (k:=.ways a) (show PyVaprbi.shape 13=some (1,0) by decide) rfl rfl (λ_=>ea.symm) (λe=>by rw[e,ea];rfl) trivial
 have:PyVaprbi.shape p=none:=by
  unfold PyVaprbi.shape;simp only[p0,p1,p2,p3,p4,p5,p6,p7,p8,p9,p10,p11,p12,p13,if_false]
 unfold PyFlat.call at h;simp only[this] at h;cases h
theorem sD:∀ (f:Nat) {l:List Int} {raw:List (List (List Int))},PyFlat.calls PyVaprbi.shape f l=some raw->PyInside.calls PyVaprbi.bound raw=true->
  ∃ ks:List Vaprbi.Call,raw.map VaprbiNeutral.callOf=ks.map some/\l=ks.flatMap eR/\∀ k∈ks,qN k
 | _,[],raw,h,_=>by
  have:raw=[]:=by
   unfold PyFlat.calls at h;exact (Option.some.inj h).symm
  subst this;exact ⟨[],rfl,rfl,λk hk=>by cases hk⟩
 | 0,_::_,raw,h,_=>by
  unfold PyFlat.calls at h;cases h
 | f+1,p::r,raw,h,hb=>by
  unfold PyFlat.calls at h
  cases e:PyFlat.call PyVaprbi.shape (p::r) with
  | none=>rw[e] at h;cases h
  | some x=>
   obtain ⟨c,t⟩:=x;rw[e] at h;simp only at h
   cases e2:PyFlat.calls PyVaprbi.shape f t with
   | none=>rw[e2] at h;cases h
   | some cs=>
    rw[e2] at h;have h:raw=c::cs:=(Option.some.inj h).symm;subst h;have hb:(PyInside.call PyVaprbi.bound c&&PyInside.calls PyVaprbi.bound cs)=true:=hb;rw[Bool.and_eq_true] at hb;obtain ⟨k,k1,k2,k3⟩:=DC e hb.1;obtain ⟨ks,s1,s2,s3⟩:=sD f e2 hb.2;refine ⟨k::ks,by rw[List.map_cons,List.map_cons,k1,s1],by rw[List.flatMap_cons,← s2];exact k3,λx hx=>?_⟩
    rcases List.mem_cons.mp hx with q|q
    ·exact q▸k2
    ·exact s3 x q
theorem OE (c:List (List Int)):PyVaprbi.whole c=c:=by
 rcases c with _|⟨_|⟨n,as⟩,t⟩
 ·rfl
 ·rcases t with _|⟨_,_|_⟩<;>rfl
 ·rcases n with n|_
  ·rcases n with _|_|_|_|_|_|_|_|_|_|_|_|_|_|_<;>(repeat' (first|exact rfl|(cases as;exact rfl;rename_i as)|(cases t;exact rfl;rename_i t)|cases as|cases t))
  ·rcases t with _|⟨_,_|_⟩<;>rfl
def due:Vaprbi.State->List Vaprbi.Call->List Int
 | _,[]=>[]
 | s,k::ks=>((VaprbiNeutral.encode (Vaprbi.step s k).2).length:Int)::VaprbiNeutral.encode (Vaprbi.step s k).2++due (Vaprbi.step s k).1 ks
def after:Vaprbi.State->List Vaprbi.Call->Vaprbi.State
 | s,[]=>s
 | s,k::ks=>after (Vaprbi.step s k).1 ks
theorem uO:∀ (raw:List (List (List Int))) (ks:List Vaprbi.Call) (s:Vaprbi.State),raw.map VaprbiNeutral.callOf=ks.map some->PyFlat.told (PyFlat.played VaprbiNeutral.step s raw)=due s ks
 | [],[],_,_=>rfl
 | [],_::_,_,h=>by cases h
 | _::_,[],_,h=>by cases h
 | c::raw,k::ks,s,h=>by
  rw[List.map_cons,List.map_cons] at h
  injection h with h1 h2
  have e:VaprbiNeutral.step s c=((Vaprbi.step s k).1,VaprbiNeutral.encode (Vaprbi.step s k).2):=by
   unfold VaprbiNeutral.step;rw[h1]
  have ih:=uO raw ks (Vaprbi.step s k).1 h2;show ((VaprbiNeutral.step s c).2.length:Int)::(VaprbiNeutral.step s c).2++PyFlat.told (PyFlat.played VaprbiNeutral.step (VaprbiNeutral.step s c).1 raw)=_;rw[e];show _=((VaprbiNeutral.encode (Vaprbi.step s k).2).length:Int)::VaprbiNeutral.encode (Vaprbi.step s k).2++due (Vaprbi.step s k).1 ks;rw[← ih]
theorem AG {l:List Int}(h:PyVaprbi.answers_asked l=true):∃ ks:List Vaprbi.Call,l=ks.flatMap eR/\(∀ k∈ks,qN k)/\PyVaprbi.answers l=due Vaprbi.start ks/\(PyVaprbi.answers l).length<=10000000:=by
 unfold PyVaprbi.answers_asked at h
 cases e:PyFlat.calls PyVaprbi.shape l.length l with
 | none=>rw[e] at h;cases h
 | some raw=>
  rw[e] at h;simp only[Bool.and_eq_true] at h;obtain ⟨⟨⟨_,hb⟩,_⟩,hs⟩:=h;obtain ⟨ks,s1,s2,s3⟩:=sD _ e hb;refine ⟨ks,s2,s3,?_,?_⟩
  ·unfold PyVaprbi.answers PyVaprbi.calls;rw[e]
   have:raw.map PyVaprbi.whole=raw:=by
    conv=>rhs;rw[← List.map_id raw]
    exact List.map_congr_left λc _=>OE c
   show PyFlat.told (PyFlat.played VaprbiNeutral.step VaprbiNeutral.start (raw.map PyVaprbi.whole))=_;rw[this];exact uO raw ks _ s1
  ·unfold PyFlat.short at hs;exact of_decide_eq_true hs
theorem AM:∀ (ks:List Vaprbi.Call) (s:Vaprbi.State) (k:Vaprbi.Call),due s (ks++[k])=due s ks++((VaprbiNeutral.encode (Vaprbi.step (after s ks) k).2).length:Int)::VaprbiNeutral.encode (Vaprbi.step (after s ks) k).2
 | [],s,k=>by
  show ((VaprbiNeutral.encode (Vaprbi.step s k).2).length:Int)::VaprbiNeutral.encode (Vaprbi.step s k).2++[]=_;rw[List.append_nil];rfl
 | x::ks,s,k=>by
  show ((VaprbiNeutral.encode (Vaprbi.step s x).2).length:Int)::VaprbiNeutral.encode (Vaprbi.step s x).2++due (Vaprbi.step s x).1 (ks++[k])=((VaprbiNeutral.encode (Vaprbi.step s x).2).length:Int)::VaprbiNeutral.encode (Vaprbi.step s x).2++due (Vaprbi.step s x).1 ks++_;rw[AM ks];rw[List.append_assoc];rfl
theorem tM:∀ (ks:List Vaprbi.Call) (s:Vaprbi.State) (k:Vaprbi.Call),after s (ks++[k])=(Vaprbi.step (after s ks) k).1
 | [],_,_=>rfl
 | x::ks,s,k=>tM ks _ k
theorem tU:∀ (ks ks':List Vaprbi.Call) (s:Vaprbi.State),due s (ks++ks')=due s ks++due (after s ks) ks'
 | [],_,_=>rfl
 | x::ks,ks',s=>by
  show _::_++due _ (ks++ks')=_::_++due _ ks++_;rw[tU ks,List.append_assoc];rfl
end TC
namespace TC
open PySem PySem.Spec PyProof.Rows L2 XF VaprbBase Mth Vaprbi
open Vaprbg (Var Form)
abbrev pS:Stmt:=top 125
def bg (k:Vaprbi.Call):Nat:=if hU k=true then 2 else 1
def xY:List V:=[.int 0,.int 0,.int 1,.int 2,.int 5,.int 0,.int 1,.int 2,.int 2,.int 1,.int 1,.int 3,.int 1,.int 1]
def vO:List V:=[.int 0,.int 1]
theorem OY (k:Vaprbi.Call):inV (.int (place k:Nat)) vO=hU k:=by cases k<;>first|rfl|decide
theorem KS (k:Vaprbi.Call):atI xY ((place k:Nat):Int)=some (.int (if hU k=true then 0 else ((row k).length:Int))):=by cases k<;>rfl
theorem AQ (k:Vaprbi.Call):(eR k).length=bg k+(row k).length:=by
 unfold eR bg;cases hU k
 ·rw[if_neg Bool.false_ne_true,if_neg Bool.false_ne_true,List.length_cons,Nat.add_comm]
 ·rw[if_pos rfl,if_pos rfl,List.length_cons,List.length_cons];lia
theorem IL (k:Vaprbi.Call)(t:List Int):(eR k++t).drop (bg k)=row k++t:=by
 unfold eR bg;cases hU k
 ·rw[if_neg Bool.false_ne_true,if_neg Bool.false_ne_true];rfl
 ·rw[if_pos rfl,if_pos rfl];rfl
theorem IM (k:Vaprbi.Call)(A t:List Int):(A++(eR k++t))[A.length]?=some (place k:Int):=by
 rw[List.getElem?_append_right (Nat.le_refl _),Nat.sub_self];unfold eR;cases hU k
 ·rw[if_neg Bool.false_ne_true];rfl
 ·rw[if_pos rfl];rfl
theorem LB {k:Vaprbi.Call}(h:hU k=true)(A t:List Int):(A++(eR k++t))[A.length+1]?=some ((row k).length:Int):=by
 rw[List.getElem?_append_right (by lia),show A.length+1-A.length=1 by lia];unfold eR;rw[if_pos h];rfl
theorem LA (k:Vaprbi.Call)(A t:List Int):sP (bQ (A++(eR k++t))) (some ((A.length+bg k:Nat):Int)) (some ((A.length+bg k+(row k).length:Nat):Int))=bQ (row k):=by
 have hl:(bQ (A++(eR k++t))).length=A.length+(bg k+(row k).length+t.length):=by
  unfold bQ;rw[List.length_map,List.length_append,List.length_append,AQ]
 rw[xZ (by lia) (by rw[hl];lia)];unfold bQ;rw[← List.map_drop,← List.map_take];congr 1;rw[← List.drop_drop,List.drop_left,IL,show A.length+bg k+(row k).length-(A.length+bg k)=(row k).length by lia,List.take_left]
def vW (K:PySem.W.Frag)(H:Hp)(a d wl cl:Addr)(xs:List V):Prop:=(∃ o,H a=some o/\a≠d/\a≠wl/\a≠cl/\∀ H',H' a=some o->SqL K H' a xs)∨∀ H',SqL K H' a xs
theorem vW.sq {K:PySem.W.Frag}{H:Hp}{a d wl cl:Addr}{xs:List V}(h:vW K H a d wl cl xs):SqL K H a xs:=by
 rcases h with ⟨o,h1,_,_,_,h2⟩|h
 ·exact h2 H h1
 ·exact h H
theorem vW.keep {K:PySem.W.Frag}{H H':Hp}{a d wl cl:Addr}{xs:List V}(h:vW K H a d wl cl xs)(k:aH [] H H'):vW K H' a d wl cl xs:=by
 rcases h with ⟨o,h1,a1,a2,a3,h2⟩|h
 ·exact .inl ⟨o,k _ _ h1 (by simp),a1,a2,a3,h2⟩
 ·exact .inr h
theorem vW.prot {K:PySem.W.Frag}{H H':Hp}{a d wl cl wl' cl':Addr}{xs:List V}(h:vW K H a d wl cl xs)(p:sO d wl cl wl' cl' H H'):vW K H' a d wl' cl' xs:=by
 rcases h with ⟨o,h1,a1,a2,a3,h2⟩|h
 ·obtain ⟨z1,z2,z3⟩:=p a o h1 a1 a2 a3;exact .inl ⟨o,z1,a1,z2,z3,h2⟩
 ·exact .inr h
theorem LL {K:PySem.W.Frag}{H:Hp}{a:Addr}{xs:List V}(h:SqL K H a xs):(∃ o,H a=some o/\∀ H',H' a=some o->SqL K H' a xs)∨∀ H',SqL K H' a xs:=by
 rcases h with (h|⟨o,h⟩)|h
 ·exact .inl ⟨_,h,λH' z=>.inl (.inl z)⟩
 ·exact .inl ⟨_,h,λH' z=>.inl (.inr ⟨o,z⟩)⟩
 ·exact .inr λH'=>.inr h
theorem Dk.updG {K:PySem.W.Frag}{CD CC CW gh:Addr}{H:Hp}{d dx nm ch wl cl:Addr}{s:Vaprbi.State}{ws:List RW}{xs ys:List V}(h:Dk K CD CC CW gh H d dx nm ch wl cl s ws)(hg:H gh=some (.lst xs)):Dk K CD CC CW gh (upd H gh (.lst ys)) d dx nm ch wl cl s ws:=by
 obtain ⟨cs,c1,c2⟩:=h.crs;obtain ⟨n1,n2,n3,n4⟩:=h.ng
 exact { h with
  ob:=by rw[aB (Ne.symm h.gd)];exact h.ob
  nms:=by rw[aB (Ne.symm n1)];exact h.nms
  chs:=h.chs.updL hg (Ne.symm n2)
  wts:=h.wts.updL hg (Ne.symm n3)
  crs:=⟨cs,by rw[aB (Ne.symm n4)];exact c1,Paired.mapP c2 λ_ _ ⟨nl,a1,a2,a3,z⟩=>⟨nl,a1,a2,a3,z.updL hg a3⟩⟩
  gs:=⟨_,aA⟩ }
structure UQ (P:Program)(w:World)(K:PySem.W.Frag)(mg:Str->Option Value)(base:Heap)(C CR CT CV CS CD CC CW CM CG:Addr)(fs:Nat->Addr):Prop where
 one:V3 P w K mg base C CR CT CV CS CD CC CW CM CG fs
 di:∃ f fd,R4 K CD f fd
 fone:∃ f fd,Def K mg "answer_one" N1 ["desk","call","numbers"] f fd
 nco:GT K mg "NUMBER_COUNTS" xY
 tco:GT K mg "TEXT_CALLS" vO
section
variable {P:Program}{w:World}{K:PySem.W.Frag}{mg:Str->Option Value}{base:Heap}
inductive mK (K:PySem.W.Frag) (us:List V) (H:Hp) (Q:VK) (E:XK):Prop
 | mk:∀ (a:Addr) (l:List Int),us=[.ref a]->SqL K H a (bQ l)->PyVaprbi.answers_asked l=true->(∀ (H':Hp) (p:Addr),H' p=some (.lst (bQ (PyVaprbi.answers l)))->Q (.ref p) H')->mK K us H Q E
theorem d7:aO ["calls","desk","given","at","call","begin","how_many","answer"] ["calls"] (aI pS):=by walk_at "s"
theorem DT {C CR CT CV CS CD CC CW CM CG f:Addr}{fs:Nat->Addr}{fd:FuncData}(N:UQ P w K mg base C CR CT CV CS CD CC CW CM CG fs)(F:Def K mg "answers" pS ["calls"] f fd):aN P w K mg base CX0 57 f fd ["calls"] (mK K):=by
 obtain ⟨g0,d0,G0⟩:=N.di;obtain ⟨g1,d1,G1⟩:=N.fone;obtain ⟨anc,mnc,snc⟩:=N.nco;obtain ⟨atc,mtc,stc⟩:=N.tco;have T:=N.one.lk.T;have O0:aN P w K mg base CX0 1 g0 d0 ["self"] (zM CD):=M0 T G0;have O1:aN P w K mg base CX0 56 g1 d1 ["desk","call","numbers"] (NO K CD CC CW):=T7 N.one G1;refine F.fn.ok d7 (λus H Q E h=>?_) (λcdv A outer s H us Q E hr h=>?_)
 ·walk_at "l"
 ·obtain ⟨a,l,rfl,hS,hask,q⟩:=h;obtain ⟨ks,el,hks,eans,hlen⟩:=AG hask;rw[eans] at q hlen
  refine ⟨_,aM (aQ (i:=1) d7.nd rfl (Or.inl rfl) (BP G0.mak O0 (hr.mono (by decide)) (by rfl) T.at_ G0.bd .nil aR))
   (aM (aQ (i:=2) d7.nd rfl (Or.inl rfl) (bD aC))
   (aG (aQ (i:=3) d7.nd rfl (Or.inl rfl) aF)
   (aM (eC PassesOwn.never (aT eZ (pv 3) (b9 aU (by rfl) T.len PySem.boot_len (a9 (pv 0) aC)) (aY _))
    (aG (aQ (i:=4) d7.nd rfl (Or.inl rfl) (aK aL (pv 0) (pv 3) (λ_ _=>rfl)))
    (aG (aQ (i:=5) d7.nd rfl (Or.inl rfl) (b7 dJ (pv 3) aF))
    (aG (aQ (i:=6) d7.nd rfl (Or.inl rfl) (aK aW (pgr mnc) (pv 4) (λ_ _=>rfl)))
    (aM (bC (aT mD (pv 4) (pgr mtc) (by with_unfolding_all rfl)) (aG (aQ (i:=5) d7.nd rfl (Or.inl rfl) (b7 dJ (pv 3) aF)) (aE (aQ (i:=6) d7.nd rfl (Or.inl rfl) (aK aL (pv 0) (b7 dJ (pv 3) aF) (λ_ _=>rfl))))) aV)
    (aG (aQ (i:=7) d7.nd rfl (Or.inl rfl) (aS O1 hr (by rfl) G1.at_ G1.fn.kp G1.bd .nil aR (a9 (pv 1) (a9 (pv 4) (a9 (pP t5 (pv 0) (jW (pv 5)) (jW (b7 dJ (pv 5) (pv 6)))) aC)))))
    (aG (bE (iB PySem.F.plainAttrs_list PySem.F.slot_list_append PySem.F.type_list_append dG (pv 2) (a9 (b9 aU (by rfl) T.len PySem.boot_len (a9 (pv 7) aC)) aC)))
    (aG (bE (iB PySem.F.plainAttrs_list PySem.F.slot_list_extend PySem.F.type_list_extend mC (pv 2) (a9 (pv 7) aC)))
    (aE (aQ (i:=3) d7.nd rfl (Or.inl rfl) (b7 dJ (pv 5) (pv 6))))))))))))
   (aE (aP (pv 2)))))),?_⟩
  refine ⟨λσ' H'=>∃ d dx nm ch wl cl,σ'=[some (.ref a),some (.ref d),none,none,none,none,none,none]/\H' d=some (.ins CD dx (dkF nm ch wl cl))/\H' nm=some (.lst [])/\H' ch=some (.lst [])/\H' wl=some (.lst [])/\H' cl=some (.lst [])/\(nm≠wl/\nm≠cl/\ch≠wl/\ch≠cl/\wl≠cl)/\H d=none/\H wl=none/\H cl=none/\aH [] H H',?_,?_⟩
  ·intro d dx nd ndx ne
   have kk:∀ b,(upd (upd H dx (.own d)) d (.ins CD dx [])) b=none->H b=none:=λb z=>by
    cases e:H b with
    | none=>rfl
    | some o=>
     rw[aB (aD e nd),aB (aD e ndx),e] at z;cases z
   exact ⟨d,dx,rfl,aA,λnm ch wl cl H1 e1 e2 e3 e4 e5 ⟨n1,n2,n3,n4⟩ nes k=>⟨rfl,d,dx,nm,ch,wl,cl,rfl,e1,e2,e3,e4,e5,nes,nd,kk _ n3,kk _ n4,uE nd ndx k⟩⟩
  ·rintro σ1 H1 ⟨d,dx,nm,ch,wl,cl,rfl,e1,e2,e3,e4,e5,nes,nd,nwl,ncl,k1⟩;refine ⟨λσ' H'=>∃ g,σ'=[some (.ref a),some (.ref d),some (.ref g),none,none,none,none,none]/\H' g=some (.lst (bQ (due Vaprbi.start [])))/\Dk K CD CC CW g H' d dx nm ch wl cl (after Vaprbi.start []) []/\vW K H' a d wl cl (bQ l)/\(a=g->∀ H',SqL K H' a (bQ l)),?_,?_⟩
   ·refine ⟨Nat.zero_le _,λg ng=>?_⟩;have k2:aH [] H1 (upd H1 g (.lst [])):=aH.laid ng;have ns:∀ {b:Addr} {o:HO},H1 b=some o->g≠b:=λz=>(aD z ng).symm;refine ⟨g,rfl,aA,⟨k2 _ _ e1 (by simp),k2 _ _ e2 (by simp),⟨[],k2 _ _ e3 (by simp),.nil⟩,⟨[],k2 _ _ e4 (by simp),.nil⟩,rfl,(λw hw=>by cases hw),rfl,⟨List.nodup_nil,(λv hv=>by cases hv)⟩,Nat.zero_le _,⟨[],k2 _ _ e5 (by simp),.nil⟩,(λp hp=>by cases hp),Nat.zero_le _,nes,⟨_,aA⟩,ns e1,ns e2,ns e3,ns e4,ns e5⟩,?_,?_⟩
    rcases LL hS with ⟨o,h1,h2⟩|h
    ·exact .inl ⟨o,k2 _ _ (k1 _ _ h1 (by simp)) (by simp),aD h1 nd,aD h1 nwl,aD h1 ncl,h2⟩
    ·exact .inr h
    ·intro eag
     rcases LL hS with ⟨o,h1,h2⟩|h
     ·exact absurd eag (ns (k1 _ _ h1 (by simp))).symm
     ·exact h
   ·rintro σ2 H2 ⟨g,rfl,hg,hD,hI,hag⟩;have sl:10000000<sizeLine:=by decide
    refine ⟨λσ' H'=>(∃ o3 o4 o5 o6 o7,σ'=[some (.ref a),some (.ref d),some (.ref g),o3,o4,o5,o6,o7])/\H' g=some (.lst (bQ (due Vaprbi.start ks))),?_,?_⟩
    ·let Iv:List Vaprbi.Call->List Vaprbi.Call->L2.St->Hp->Prop:=λks1 ks2 σ' H'=>ks=ks1++ks2/\(∃ o4 o5 o6 o7,σ'=[some (.ref a),some (.ref d),some (.ref g),some (.int ((ks1.flatMap eR).length:Nat)),o4,o5,o6,o7])/\H' g=some (.lst (bQ (due Vaprbi.start ks1)))/\
      ∃ dx nm ch wl cl ws,Dk K CD CC CW g H' d dx nm ch wl cl (after Vaprbi.start ks1) ws/\vW K H' a d wl cl (bQ l)
     refine ⟨λm σ' H'=>∃ ks1 ks2,m=ks2.length/\Iv ks1 ks2 σ' H',⟨_,[],ks,rfl,rfl,⟨_,_,_,_,rfl⟩,hg,_,_,_,_,_,_,hD,hI⟩,?_⟩;rintro m σ' H' ⟨ks1,ks2,rfl,ek,⟨o4,o5,o6,o7,rfl⟩,hg',dx',nm',ch',wl',cl',ws',hD',hI'⟩;have hl:l=ks1.flatMap eR++ks2.flatMap eR:=by rw[el,ek,List.flatMap_append]
     refine ⟨_,rfl,_,rfl,a,_,rfl,.inl hI'.sq,_,_,rfl,rfl,_,rfl,?_⟩
     have rl:(bQ l).length=(ks1.flatMap eR).length+(ks2.flatMap eR).length:=by
      unfold bQ;rw[List.length_map,hl,List.length_append]
     rw[rl]
     cases ks2 with
     | nil=>
      refine itF (by simp only[decide_eq_true_eq];show ¬ (((ks1.flatMap eR).length:Int)<(((ks1.flatMap eR).length+0:Nat):Int));lia) ?_
      have:ks=ks1:=by rw[ek,List.append_nil]
      subst this;exact ⟨⟨_,_,_,_,_,rfl⟩,hg'⟩
     | cons k ks2=>
      have fl:=AQ k;have b1:1<=bg k:=by unfold bg;split<;>lia
      have fcl:((k::ks2).flatMap eR).length=bg k+(row k).length+(ks2.flatMap eR).length:=by rw[List.flatMap_cons,List.length_append,fl]
      refine itT (decide_eq_true (by rw[fcl];lia)) ?_;refine ⟨λσ2 H2=>∃ m',m'<(k::ks2).length/\∃ ks1 ks2,m'=ks2.length/\Iv ks1 ks2 σ2 H2,λ_ _ z=>z,?_⟩;generalize hA:ks1.flatMap eR=A at hl rl;have hl2:l=A++(eR k++ks2.flatMap eR):=by rw[hl,List.flatMap_cons]
      have g1:(bQ l)[A.length]?=some (V.int (place k:Nat)):=by
       unfold bQ;rw[List.getElem?_map,hl2,IM];rfl
      refine ⟨_,rfl,_,rfl,a,_,_,_,rfl,rfl,hI'.sq,aX g1,?_⟩;refine ⟨_,rfl,_,_,rfl,rfl,?_⟩;refine ⟨_,rfl,anc,_,_,_,rfl,rfl,GT.sq snc,KS k,?_⟩;refine ⟨λσ'' H''=>H''=H'/\σ''=[some (.ref a),some (.ref d),some (.ref g),some (.int (A.length:Nat)),some (.int (place k:Nat)),some (.int ((A.length+bg k:Nat):Int)),some (.int ((row k).length:Nat)),o7],?_,?_⟩
      ·refine ⟨_,rfl,atc,vO,rfl,.inr (GT.sq stc),rfl,rfl,_,rfl,?_⟩
       show if (if false=true then _ else inV (.int (place k:Nat)) vO)=true then _ else _
       rw[if_neg Bool.false_ne_true,OY]
       cases ht:hU k with
       | true=>
        refine itT rfl ?_
        have g2:(bQ l)[A.length+1]?=some (V.int ((row k).length:Nat)):=by
         unfold bQ;rw[List.getElem?_map,hl2,LB ht];rfl
        refine ⟨_,rfl,_,_,rfl,rfl,?_⟩;refine ⟨_,rfl,_,rfl,_,_,rfl,rfl,a,_,_,_,rfl,rfl,hI'.sq,V9 (j:=A.length+1) (by lia) g2,rfl,?_⟩;have eb:bg k=2:=by unfold bg;rw[ht];rfl
        rw[eb];rfl
       | false=>
        refine itF Bool.false_ne_true ?_;have eb:bg k=1:=by unfold bg;rw[ht];rfl
        refine ⟨rfl,?_⟩;rw[eb];rfl
      ·rintro σ3 H3 ⟨rfl,rfl⟩;refine ⟨_,rfl,_,rfl,_,rfl,_,rfl,_,rfl,_,rfl,_,rfl,_,_,rfl,rfl,_,rfl,a,_,rfl,hI'.sq,λal nal=>?_⟩
       have ec:sP (bQ l) (some ((A.length+bg k:Nat):Int)) (some (((A.length+bg k:Nat):Int)+((row k).length:Nat)))=bQ (row k):=by
        have:=LA k A (ks2.flatMap eR)
        rw[← hl2,Int.natCast_add (A.length+bg k)] at this;exact this
       rw[ec];have k4:aH [] H3 (upd H3 al (.lst (bQ (row k)))):=aH.laid nal;have hDa:=hD'.keep k4;have hIa:=hI'.keep k4;have hga:=k4 _ _ hg' (by simp)
       have nw:al≠wl':=by
        obtain ⟨wa,we,_⟩:=hD'.wts;exact (aD we nal).symm
       refine ⟨g,d,dx',nm',ch',wl',cl',al,_,ws',k,rfl,hDa,aA,nw,hks k (by rw[ek];simp),λr H5 dx5 nm5 ch5 wl5 cl5 ws5 hr5 nr5 hD5 p5=>?_⟩;obtain ⟨hg5,_,_⟩:=p5 g _ hga hDa.gd hDa.ng.2.2.1 hDa.ng.2.2.2;have hI5:=hIa.prot p5;have rg:r≠g:=(aD hga nr5).symm;generalize hans:VaprbiNeutral.encode (Vaprbi.step (after Vaprbi.start ks1) k).2=ans at hr5;have hdue:due Vaprbi.start (ks1++[k])=due Vaprbi.start ks1++(ans.length:Int)::ans:=by rw[AM,hans]
       have htot:(due Vaprbi.start ks1).length+(1+ans.length)<=10000000:=by
        have e2:ks=(ks1++[k])++ks2:=by rw[ek];simp
        rw[e2,tU,List.length_append,hdue,List.length_append,List.length_cons] at hlen;lia
       refine ⟨_,rfl,.inl ⟨rfl,_,SqL.of hg5⟩,_,rfl,r,_,rfl,.inl (SqL.of hr5),?_⟩;have rlen:(bQ ans).length=ans.length:=List.length_map _;have dlen:(bQ (due Vaprbi.start ks1)).length=(due Vaprbi.start ks1).length:=List.length_map _;rw[rlen];refine ⟨g,_,_,rfl,rfl,hg5,by rw[dlen];lia,?_⟩;have hr6:(upd H5 g (.lst (bQ (due Vaprbi.start ks1)++[V.int (ans.length:Nat)]))) r=some (.lst (bQ ans)):=by rw[aB rg];exact hr5
       refine ⟨_,rfl,.inl ⟨rfl,_,SqL.of aA⟩,_,rfl,g,r,_,_,rfl,rfl,aA,hr6,by rw[List.length_append,dlen,rlen];show _+1+_<=_;lia,?_⟩;have hD6:=(hD5.updG (ys:=bQ (due Vaprbi.start ks1)++[V.int (ans.length:Nat)]) hg5).updG (ys:=bQ (due Vaprbi.start ks1)++[V.int (ans.length:Nat)]++bQ ans) aA;refine ⟨_,rfl,_,rfl,_,_,rfl,rfl,ks2.length,by rw[List.length_cons];lia,ks1++[k],ks2,rfl,by rw[ek];simp,⟨some (.int (place k:Nat)),some (.int ((A.length+bg k:Nat):Int)),some (.int ((row k).length:Nat)),some (.ref r),?_⟩,?_,dx5,nm5,ch5,wl5,cl5,ws5,?_,?_⟩
       ·rw[List.flatMap_append,List.length_append,hA]
        show _=[_,_,_,some (V.int ((A.length+((eR k)++[]).length:Nat):Int)),_,_,_,_]
        rw[List.append_nil,fl,← Nat.add_assoc,Int.natCast_add (A.length+bg k)];rfl
       ·rw[aA,hdue,iC,List.append_assoc];rfl
       ·rw[tM];exact hD6
       ·rcases hI5 with ⟨o,z1,z2,z3,z4,z5⟩|z
        ·by_cases eag:a=g
         ·exact .inr (hag eag)
         ·exact .inl ⟨o,by rw[aB eag,aB eag];exact z1,z2,z3,z4,z5⟩
        ·exact .inr z
    ·rintro σ3 H3 ⟨⟨o3,o4,o5,o6,o7,rfl⟩,hg3⟩;exact ⟨_,rfl,q H3 g hg3⟩
end
end TC
local macro_rules|`(tactic| walk_at "b1")=>`(tactic| exact λ_ _ _ _ _ _=>ln1 λ_=>rfl)
local macro_rules|`(tactic| walk_at "b2")=>`(tactic| exact λ_ _ _ _ _ _=>ln2 λ_ _=>rfl)
local macro_rules|`(tactic| walk_at "b3")=>`(tactic| exact λ_ _ _ _ _ _=>ln3 λ_ _ _=>rfl)
local macro_rules|`(tactic| walk_at "b4")=>`(tactic| exact λ_ _ _ _ _ _=>ln4 λ_ _ _ _=>rfl)
local macro_rules|`(tactic| walk_at "b5")=>`(tactic| exact λ_ _ _ _ _ _=>ln5 λ_ _ _ _ _=>rfl)
namespace TC
open PySem PySem.Spec PyProof.Rows L2 XF VaprbBase Mth Vaprbi
open PySem.W (nsIn findIn isFn keepIn codeIn makesIn plainGet hasDictIn plainOver clsIn fnOf)
def GIW (K:PySem.W.Frag)(x:Str)(n:Int):Prop:=∃ t,nsIn K mainGlobals x=some (some (.int n t))
def GSW (K:PySem.W.Frag)(x z:Str):Prop:=∃ t,nsIn K mainGlobals x=some (some (.str z t))
def GTW (K:PySem.W.Frag)(x:Str)(xs:List V):Prop:=∃ (a:Addr) (od:Option Addr) (its:Array Value) (n:Nat) (sl:Array (Option Value)),nsIn K mainGlobals x=some (some (.ref a))/\K.lookup a=some ⟨.type "tuple",od,.seq its n,sl⟩/\its.size<=sizeLine/\bH xs its.toList
def NoW (K:PySem.W.Frag)(x:Str):Prop:=nsIn K mainGlobals x=some none
def S5 (w:World)(e:DictEntry)(kv:Key×V):Prop:=∃ u,e.hash=VO w kv.1/\u7 kv.1 e.key=true/\e.val=u/\bP kv.2 u
def K9 (w:World)(K:PySem.W.Frag)(x:Str)(kvs:List (Key×V)):Prop:=∃ (a:Addr) (es:Array DictEntry) (ep:Nat),nsIn K mainGlobals x=some (some (.ref a))/\(a==sysModules)=false/\K.lookup a=some ⟨.type "dict",none,.dict es ep,#[]⟩/\Paired (S5 w) es.toList kvs
theorem VD {P:Program}{w:World}:∀ {es:List DictEntry} {kvs:List (Key×V)},Paired (S5 w) es kvs->∃ vs,Pairs (cM P w) es vs/\KV kvs vs/\vs.map (·.1)=kvs.map (·.1)/\∀ e∈es,∃ k,(cM P w).is k e.key=true/\e.hash=(cM P w).hash k
 | _,_,.nil=>⟨[],.nil,.nil,rfl,λe he=>by cases he⟩
 | e::es,kv::kvs,.cons ⟨u,h1,h2,h3,h4⟩ r=>by
  obtain ⟨vs,p,q,n,a⟩:=VD (P:=P) r;refine ⟨(kv.1,u)::vs,.cons h2 h3 p,.cons ⟨rfl,h4⟩ q,by rw[List.map_cons,List.map_cons,n],λx hx=>?_⟩
  rcases List.mem_cons.mp hx with z|z
  ·exact z▸⟨kv.1,h2,h1⟩
  ·exact a x z
def FnW (K:PySem.W.Frag)(x qual:Str)(st:Stmt)(f:Addr):Prop:=∃ (oc:Value) (od:Option Addr) (kV doc pm:Value) (an:Option Addr) (cdv ct:Value) (sl:Array (Option Value)),
 K.lookup f=some ⟨oc,od,.func (fnOf x qual (jM st) (fQ st) (aI st) .none kV doc pm an cdv ct),sl⟩/\codeIn K cdv qual=true/\keepIn K (.ref f)=true
def b8 (K:PySem.W.Frag)(x:Str)(st:Stmt)(f:Addr):Prop:=nsIn K mainGlobals x=some (some (.ref f))/\FnW K x x st f
def bG (K:PySem.W.Frag)(C:Addr)(m qual:Str)(st:Stmt)(f:Addr):Prop:=findIn K (.ref C) m=some (some (.ref f))/\isFn K (.ref f)=true/\FnW K m qual st f
structure vT (K:PySem.W.Frag)(x:Str)(C:Addr):Prop where
 at_:nsIn K mainGlobals x=some (some (.ref C))
 cl:Cls K C
 mks:makesIn K C=true
 kp:keepIn K (.ref C)=true
def W6:List V:=[.str "chance",.str "budget",.str "def",.str "let",.str "observe",.str "tell",.str "table",.str "net",.str "flag",.str "num",.str "if",.str "flip",.str "pick",.str "uniform",.str "given",.str "weigh",.str "true",.str "false"]
def RY:List (Key×V):=[(.inl 61,.str "="),(.inl 123,.str "{"),(.inl 125,.str "}"),(.inl 40,.str "("),(.inl 41,.str ")"),(.inl 91,.str "["),(.inl 93,.str "]"),(.inl 44,.str ","),(.inl 59,.str ";"),(.inl 58,.str ":"),(.inl 47,.str "/"),(.inl 124,.str "|")]
theorem QS:RY=v7:=by decide +kernel
theorem TU:W6=E7:=by decide +kernel
def A8 (x qual:Str)(st:Stmt)(ps:List Str):Prop:=∀ (kV doc pm:Value) (an:Option Addr) (cdv ct:Value) (us:List Value),us.length=ps.length->bindArgs (fnOf x qual (jM st) (fQ st) (aI st) .none kV doc pm an cdv ct) ⟨us,[]⟩=pure (ps.zip us)
section
variable {P:Program}{w:World}{K:PySem.W.Frag}{h:Heap}{mg:Str->Option Value}
theorem GIW.gi {x:Str}{n:Int}(X:K.In h)(G:h.Ns mainGlobals mg)(a:GIW K x n):GI mg x n:=let ⟨t,e⟩:=a;⟨t,PySem.W.mg_of X G e⟩
theorem GSW.gs {x z:Str}(X:K.In h)(G:h.Ns mainGlobals mg)(a:GSW K x z):GS mg x z:=let ⟨t,e⟩:=a;⟨t,PySem.W.mg_of X G e⟩
theorem GTW.gt {x:Str}{xs:List V}(X:K.In h)(G:h.Ns mainGlobals mg)(a:GTW K x xs):GT K mg x xs:=let ⟨a,od,its,n,sl,e,l,z,v⟩:=a;⟨a,PySem.W.mg_of X G e,_,its,n,l,rfl,rfl,z,v⟩
theorem K9.gd {x:Str}{kvs:List (Key×V)}(X:K.In h)(G:h.Ns mainGlobals mg)(a:K9 w K x kvs)(nd:(kvs.map (·.1)).Nodup):∃ a,mg x=some (.ref a)/\xQ P w K a kvs:=by
 obtain ⟨a,es,ep,e,ns,l,p⟩:=a;obtain ⟨vs,p1,p2,p3,p4⟩:=VD (P:=P) p;exact ⟨a,PySem.W.mg_of X G e,ns,λh' X'=>⟨vs,p2,_,es,ep,X' _ _ l,⟨rfl,rfl,rfl⟩,rfl,λx hx=>p4 x (Array.mem_toList_iff.mpr hx),p1,p3▸nd⟩⟩
theorem FnW.fn {x qual:Str}{st:Stmt}{f:Addr}{ps:List Str}(a:FnW K x qual st f)(b:A8 x qual st ps):∃ fd,Fun K x qual st f fd/\cZ K fd ps []:=by
 obtain ⟨oc,od,kV,doc,pm,an,cdv,ct,sl,l,c,k⟩:=a;have F:=LD (st:=st) l c k;exact ⟨_,F,F.binds b⟩
theorem b8.df {x:Str}{st:Stmt}{f:Addr}{ps:List Str}(X:K.In h)(G:h.Ns mainGlobals mg)(a:b8 K x st f)(b:A8 x x st ps):∃ fd,Def K mg x st ps f fd:=by
 obtain ⟨fd,F,B⟩:=a.2.fn b;exact ⟨fd,F,PySem.W.mg_of X G a.1,B⟩
theorem b8.ex {x:Str}{st:Stmt}{ps:List Str}(X:K.In h)(G:h.Ns mainGlobals mg)(a:∃ f,b8 K x st f)(b:A8 x x st ps):∃ f fd,Def K mg x st ps f fd:=by
 obtain ⟨f,a⟩:=a;obtain ⟨fd,D⟩:=a.df X G b;exact ⟨f,fd,D⟩
theorem bG.ex {C:Addr}{m qual:Str}{st:Stmt}{ps:List Str}(a:∃ f,bG K C m qual st f)(b:A8 m qual st ps):∃ f fd,bN K C m qual st ps f fd:=by
 obtain ⟨f,a1,a2,a3⟩:=a;obtain ⟨fd,F,B⟩:=a3.fn b;exact ⟨f,fd,F,⟨a1,a2,F.kp⟩,B⟩
theorem gQ {C:Addr}{x qual:Str}{st:Stmt}{ps:List Str}(c:vT K x C)(a:∃ f,bG K C "__init__" qual st f)(b:A8 "__init__" qual st ps):∃ f fd,Mk K C f/\Fun K "__init__" qual st f fd/\cZ K fd ps []:=by
 obtain ⟨f,a1,a2,a3⟩:=a;obtain ⟨fd,F,B⟩:=a3.fn b;exact ⟨f,fd,⟨c.mks,a1,a2,c.kp⟩,F,B⟩
end
structure UW (K:PySem.W.Frag)(C:Addr):Prop where
 at_:nsIn K mainGlobals "Fault" = some (some (.ref C))
 xc:XC K C
 nC:aZ K C "code"
 nP:aZ K C "place"
 kp:keepIn K (.ref C)=true
 ini:∃ f,findIn K (.ref C) "__init__" = some (some (.ref f))/\CO K C f=true/\isFn K (.ref f)=true/\FnW K "__init__" "Fault.__init__" k8 f
section
variable {w:World}{K:PySem.W.Frag}{x qual m z:Str}{n:Int}{t:PySem.Tok}{a f C:Addr}{oc kV doc pm cdv ct:Value}{od an:Option Addr}{sl:Array (Option Value)}{its:Array Value}{ep:Nat}{es:Array DictEntry}{xs:List V}{kvs:List (Key×V)}{st:Stmt}{cd:ClassData}
theorem giw (e:nsIn K mainGlobals x=some (some (.int n t))):GIW K x n:=⟨t,e⟩
theorem gsw (e:nsIn K mainGlobals x=some (some (.str z t))):GSW K x z:=⟨t,e⟩
theorem gtw (e:nsIn K mainGlobals x=some (some (.ref a)))(l:K.lookup a=some ⟨.type "tuple",od,.seq its ep,sl⟩)(s:its.size<=sizeLine)(v:bH xs its.toList):GTW K x xs:=⟨a,od,its,ep,sl,e,l,s,v⟩
theorem dctw (e:nsIn K mainGlobals x=some (some (.ref a)))(s:(a==sysModules)=false)(l:K.lookup a=some ⟨.type "dict",none,.dict es ep,#[]⟩)(v:Paired (S5 w) es.toList kvs):K9 w K x kvs:=⟨a,es,ep,e,s,l,v⟩
theorem fnw (l:K.lookup f=some ⟨oc,od,.func (fnOf x qual (jM st) (fQ st) (aI st) .none kV doc pm an cdv ct),sl⟩)(c:codeIn K cdv qual=true)(k:keepIn K (.ref f)=true):FnW K x qual st f:=⟨oc,od,kV,doc,pm,an,cdv,ct,sl,l,c,k⟩
theorem dfw (e:nsIn K mainGlobals x=some (some (.ref f)))(g:FnW K x x st f):∃ f,b8 K x st f:=⟨f,e,g⟩
theorem mtw (e:findIn K (.ref C) m=some (some (.ref f)))(i:isFn K (.ref f)=true)(g:FnW K m qual st f):∃ f,bG K C m qual st f:=⟨f,e,i,g⟩
theorem xcw (c:clsIn K C=some cd)(h:cd.mro=.ref C::oW)(hd:cd.hasDict=true)(s1:findIn K (.ref C) "__setattr__" = some (some (.builtin "object.__setattr__")))(s2:findIn K (.ref C) "__getattribute__" = some (some (.builtin "BaseException.__getattribute__")))(s3:findIn K (.ref C) "__getattr__" = some none):XC K C:=
 ⟨by rw[c];show (decide _&&_)=true;rw[decide_eq_true h,hd];rfl,s1,s2,s3⟩
theorem ftw (e:nsIn K mainGlobals "Fault" = some (some (.ref C)))(xc:XC K C)(nC:aZ K C "code")(nP:aZ K C "place")(kp:keepIn K (.ref C)=true)(i:findIn K (.ref C) "__init__" = some (some (.ref f)))(mk:CO K C f=true)(g:isFn K (.ref f)=true)(fn:FnW K "__init__" "Fault.__init__" k8 f):UW K C:=⟨e,xc,nC,nP,kp,f,i,mk,g,fn⟩
end
theorem ln1 {α:Type}{P:List α->Prop}(h:∀ a,P [a]):∀ us:List α,us.length=1->P us
 | [_],_=>h _
theorem ln2 {α:Type}{P:List α->Prop}(h:∀ a b,P [a,b]):∀ us:List α,us.length=2->P us
 | [_,_],_=>h _ _
theorem ln3 {α:Type}{P:List α->Prop}(h:∀ a b c,P [a,b,c]):∀ us:List α,us.length=3->P us
 | [_,_,_],_=>h _ _ _
theorem ln4 {α:Type}{P:List α->Prop}(h:∀ a b c d,P [a,b,c,d]):∀ us:List α,us.length=4->P us
 | [_,_,_,_],_=>h _ _ _ _
theorem ln5 {α:Type}{P:List α->Prop}(h:∀ a b c d e,P [a,b,c,d,e]):∀ us:List α,us.length=5->P us
 | [_,_,_,_,_],_=>h _ _ _ _ _
structure UT (w:World)(K:PySem.W.Frag)(C CT CR CV CS CD CC CW CM CG:Addr)(f0 f1 f2 f3 f4 f5 f6 f7 f8 f9 f10 f11 f12 f13:Addr):Prop where
 z0:UW K C
 z1:vT K "Token" CT
 z2:aZ K CT "kind"
 z3:aZ K CT "said"
 z4:aZ K CT "place"
 z5:aZ K CT "behind"
 z6:∃ f,bG K CT "__init__" "Token.__init__" nX f
 z7:vT K "Reader" CR
 z8:aZ K CR "tokens"
 z9:aZ K CR "at"
 z10:∃ f,bG K CR "__init__" "Reader.__init__" (sRd 0) f
 z11:∃ f,bG K CR "token" "Reader.token" (sRd 1) f
 z12:∃ f,bG K CR "is_at_end" "Reader.is_at_end" (sRd 2) f
 z13:∃ f,bG K CR "is_at_sign" "Reader.is_at_sign" (sRd 3) f
 z14:∃ f,bG K CR "refuse" "Reader.refuse" (sRd 4) f
 z15:∃ f,bG K CR "step" "Reader.step" (sRd 5) f
 z16:∃ f,bG K CR "take_kind" "Reader.take_kind" (sRd 6) f
 z17:∃ f,bG K CR "take_sign" "Reader.take_sign" (sRd 7) f
 z18:∃ f,bG K CR "take_name" "Reader.take_name" (sRd 8) f
 z19:vT K "Variables" CV
 z20:aZ K CV "names"
 z21:aZ K CV "chances"
 z22:∃ f,bG K CV "__init__" "Variables.__init__" EE f
 z23:vT K "Scope" CS
 z24:aZ K CS "yes"
 z25:aZ K CS "tables"
 z26:∃ f,bG K CS "__init__" "Scope.__init__" ED f
 z27:vT K "Desk" CD
 z28:aZ K CD "names"
 z29:aZ K CD "chances"
 z30:aZ K CD "weights"
 z31:aZ K CD "circuits"
 z32:∃ f,bG K CD "__init__" "Desk.__init__" (sDk 0) f
 z33:∃ f,bG K CD "hold" "Desk.hold" (sDk 1) f
 z34:∃ f,bG K CD "weigh_by_chances" "Desk.weigh_by_chances" (sDk 2) f
 z35:∃ f,bG K CD "has_circuit" "Desk.has_circuit" (sDk 3) f
 z36:∃ f,bG K CD "has_variable" "Desk.has_variable" (sDk 4) f
 z37:vT K "Circuit" CC
 z38:aZ K CC "nodes"
 z39:aZ K CC "root"
 z40:∃ f,bG K CC "__init__" "Circuit.__init__" EA f
 z41:∃ f,bG K CC "has_node" "Circuit.has_node" (sCi 1) f
 z42:∃ f,bG K CC "count_kind" "Circuit.count_kind" (sCi 2) f
 z43:vT K "Weight" CW
 z44:aZ K CW "yes"
 z45:aZ K CW "no"
 z46:aZ K CW "bottom"
 z47:∃ f,bG K CW "__init__" "Weight.__init__" EF f
 z48:vT K "Maker" CM
 z49:aZ K CM "how_many"
 z50:aZ K CM "nodes"
 z51:aZ K CM "places"
 z52:aZ K CM "made"
 z53:∃ f,bG K CM "__init__" "Maker.__init__" (sMk 0) f
 z54:∃ f,bG K CM "put" "Maker.put" (sMk 1) f
 z55:∃ f,bG K CM "put_sum" "Maker.put_sum" (sMk 2) f
 z56:∃ f,bG K CM "put_product" "Maker.put_product" (sMk 3) f
 z57:∃ f,bG K CM "make_asked" "Maker.make_asked" (sMk 4) f
 z58:∃ f,bG K CM "make_not_asked" "Maker.make_not_asked" (sMk 5) f
 z59:∃ f,bG K CM "make_new" "Maker.make_new" (sMk 6) f
 z60:∃ f,bG K CM "make" "Maker.make" (sMk 7) f
 z61:vT K "Greatest" CG
 z62:aZ K CG "top"
 z63:aZ K CG "bottom"
 z64:aZ K CG "ways"
 z65:∃ f,bG K CG "__init__" "Greatest.__init__" EB f
 z66:∃ f,b8 K "is_letter" gY f
 z67:∃ f,b8 K "is_digit" gB f
 z68:∃ f,b8 K "is_name" pV f
 z69:∃ f,b8 K "behind_remark" dI f
 z70:∃ f,b8 K "behind_blanks" eD f
 z71:∃ f,b8 K "behind_digits" dH f
 z72:∃ f,b8 K "word_at" mI f
 z73:∃ f,b8 K "number_at" j4 f
 z74:∃ f,b8 K "is_arrow" lL f
 z75:∃ f,b8 K "token_at" lO f
 z76:∃ f,b8 K "tokens_of" eQ f
 z77:∃ f,b8 K "common_divisor" EC f
 z78:∃ f,b8 K "lowest_terms" JM f
 z79:∃ f,b8 K "read_new_name" N0 f
 z80:∃ f,b8 K "read_denominator" uV f
 z81:∃ f,b8 K "read_chance" pT f
 z82:∃ f,b8 K "read_variable" BY f
 z83:∃ f,b8 K "variables_of" pY f
 z84:∃ f,b8 K "variable_table" pX f
 z85:∃ f,b8 K "combine" lI f
 z86:∃ f,b8 K "read_parts" rG f
 z87:∃ f,b8 K "read_alone" uU f
 z88:∃ f,b8 K "read_formula" uW f
 z89:∃ f,b8 K "function_of" BX f
 z90:∃ f,b8 K "circuit_of" pU f
 z91:∃ f,b8 K "weight_of" j5 f
 z92:∃ f,b8 K "weight_by_chance" gX f
 z93:∃ f,b8 K "weights_of_one" xG f
 z94:∃ f,b8 K "weights_known_true" uY f
 z95:∃ f,b8 K "node_value" lM f
 z96:∃ f,b8 K "values_of" gZ f
 z97:∃ f,b8 K "whole_of" lP f
 z98:∃ f,b8 K "greater_of" lK f
 z99:∃ f,b8 K "greatest_of_node" uX f
 z100:∃ f,b8 K "greatest_of" j3 f
 z101:∃ f,b8 K "flow_to" mH f
 z102:∃ f,b8 K "flow_from" j0 f
 z103:∃ f,b8 K "flows_of" lJ f
 z104:∃ f,b8 K "parts_of" lN f
 z105:∃ f,b8 K "tell_fault" hZ f
 z106:∃ f,b8 K "tell_fraction" pW f
 z107:∃ f,b8 K "answer_one" N1 f
 z108:b8 K "answer_vars" (bO 0) f0
 z109:b8 K "answer_add" (bO 1) f1
 z110:b8 K "answer_size" (bO 2) f2
 z111:b8 K "answer_node" (bO 3) f3
 z112:b8 K "answer_weigh" (bO 4) f4
 z113:b8 K "answer_clear" (bO 5) f5
 z114:b8 K "answer_total" (bO 6) f6
 z115:b8 K "answer_value" (bO 7) f7
 z116:b8 K "answer_flow" (bO 8) f8
 z117:b8 K "answer_parts" (bO 9) f9
 z118:b8 K "answer_marginals" (bO 10) f10
 z119:b8 K "answer_together" (bO 11) f11
 z120:b8 K "answer_most" (bO 12) f12
 z121:b8 K "answer_ways" (bO 13) f13
 z122:∃ f,b8 K "answers" pS f
 z123:GIW K "TOO_MANY_BYTES" 1
 z124:GIW K "NO_TOKEN" 2
 z125:GIW K "NOT_ALLOWED" 3
 z126:GIW K "TOO_MANY" 4
 z127:GIW K "NAME_TAKEN" 5
 z128:GIW K "NAME_UNKNOWN" 6
 z129:GIW K "OUT_OF_RANGE" 7
 z130:GIW K "WORD" 1
 z131:GIW K "NUMBER_words" 2
 z132:GIW K "SIGN" 3
 z133:GIW K "END" 4
 z134:GIW K "MOST_BYTES" 4096
 z135:GIW K "LONGEST_WORD" 16
 z136:GIW K "MOST_DIGITS" 10
 z137:GIW K "GREATEST_NUMBER" 1000000000
 z138:GIW K "LINE_END" 10
 z139:GIW K "REMARK" 35
 z140:GIW K "MINUS" 45
 z141:GIW K "GREATER" 62
 z142:GIW K "ZERO_words" 48
 z143:GIW K "DEEPEST" 24
 z144:GIW K "MOST_VARIABLES" 12
 z145:GIW K "NUMBER_circuits" 0
 z146:GIW K "YES" 1
 z147:GIW K "NO" 2
 z148:GIW K "SUM" 3
 z149:GIW K "PRODUCT" 4
 z150:GIW K "MOST_CIRCUITS" 16
 z151:GIW K "MOST_NODES" 2000
 z152:GIW K "NO_VARIABLES" (-1)
 z153:GIW K "NO_CIRCUIT" (-2)
 z154:GIW K "CIRCUITS_FULL" (-3)
 z155:GIW K "NOT_THERE" (-5)
 z156:GIW K "IS_ZERO" (-6)
 z157:GIW K "NODES_TOO_MANY" (-8)
 z158:GIW K "CALL_VARS" 0
 z159:GSW K "ARROW" "->"
 z160:GSW K "CHARACTERS" wI
 z161:GTW K "BLANKS" [.int 32,.int 9,.int 10]
 z162:GTW K "NOT_NAMES" W6
 z163:GTW K "ZERO_circuits" [.int 0,.int 0,.int 1]
 z164:GTW K "ONE" [.int 0,.int 1,.int 1]
 z165:GTW K "NUMBER_COUNTS" xY
 z166:GTW K "TEXT_CALLS" vO
 z167:GTW K "CIRCUIT_CALLS" iO
 z168:GTW K "ANSWERERS" [.ref f0,.ref f1,.ref f2,.ref f3,.ref f4,.ref f5,.ref f6,.ref f7,.ref f8,.ref f9,.ref f10,.ref f11,.ref f12,.ref f13]
 z169:NoW K "len"
 z170:NoW K "abs"
 z171:NoW K "range"
 z172:NoW K "list"
 z173:NoW K "enumerate"
 z174:K9 w K "SIGNS" RY
 z175:K9 w K "PART_COUNTS" nQ
 z176:CR≠CT
 z177:CV≠CR
 z178:CS≠CR
 z179:CD≠CW
 z180:CD≠CV
 z181:CD≠CC
section
variable {P:Program}{w:World}{K:PySem.W.Frag}{h:Heap}{mg:Str->Option Value}
theorem SB {fa:Addr}{C CT CR CV CS CD CC CW CM CG:Addr}{f0 f1 f2 f3 f4 f5 f6 f7 f8 f9 f10 f11 f12 f13:Addr}(X:K.In h)(G:h.Ns mainGlobals mg)(hfa:mg "answers" = some (.ref fa))(Z:UT w K C CT CR CV CS CD CC CW CM CG f0 f1 f2 f3 f4 f5 f6 f7 f8 f9 f10 f11 f12 f13):
  ∃ fd:FuncData,(∀ (s:Shared) (us:List Value),us.length=(["calls"]:List Str).length->BindsTo s fd ⟨us,[]⟩ ((["calls"]:List Str).zip us))/\∀ base:Heap,K.In base->base.Ns mainGlobals mg->aN P w K mg base CX0 57 fa fd ["calls"] (mK K):=by
 have z66:∃ f fd,Def K mg "is_letter" gY ["byte"] f fd:=b8.ex X G Z.z66 (by walk_at "b1");have z67:∃ f fd,Def K mg "is_digit" gB ["byte"] f fd:=b8.ex X G Z.z67 (by walk_at "b1");have z68:∃ f fd,Def K mg "is_name" pV ["token"] f fd:=b8.ex X G Z.z68 (by walk_at "b1");have z69:∃ f fd,Def K mg "behind_remark" dI ["text","place"] f fd:=b8.ex X G Z.z69 (by walk_at "b2");have z70:∃ f fd,Def K mg "behind_blanks" eD ["text","place"] f fd:=b8.ex X G Z.z70 (by walk_at "b2");have z71:∃ f fd,Def K mg "behind_digits" dH ["text","place"] f fd:=b8.ex X G Z.z71 (by walk_at "b2");have z72:∃ f fd,Def K mg "word_at" mI ["text","place"] f fd:=b8.ex X G Z.z72 (by walk_at "b2");have z73:∃ f fd,Def K mg "number_at" j4 ["text","place"] f fd:=b8.ex X G Z.z73 (by walk_at "b2");have z74:∃ f fd,Def K mg "is_arrow" lL ["text","place"] f fd:=b8.ex X G Z.z74 (by walk_at "b2");have z75:∃ f fd,Def K mg "token_at" lO ["text","place"] f fd:=b8.ex X G Z.z75 (by walk_at "b2");have z76:∃ f fd,Def K mg "tokens_of" eQ ["text"] f fd:=b8.ex X G Z.z76 (by walk_at "b1");have z77:∃ f fd,Def K mg "common_divisor" EC ["a","b"] f fd:=b8.ex X G Z.z77 (by walk_at "b2");have z78:∃ f fd,Def K mg "lowest_terms" JM ["top","bottom"] f fd:=b8.ex X G Z.z78 (by walk_at "b2");have z79:∃ f fd,Def K mg "read_new_name" N0 ["reader","names"] f fd:=b8.ex X G Z.z79 (by walk_at "b2");have z80:∃ f fd,Def K mg "read_denominator" uV ["reader"] f fd:=b8.ex X G Z.z80 (by walk_at "b1");have z81:∃ f fd,Def K mg "read_chance" pT ["reader"] f fd:=b8.ex X G Z.z81 (by walk_at "b1");have z82:∃ f fd,Def K mg "read_variable" BY ["reader","variables"] f fd:=b8.ex X G Z.z82 (by walk_at "b2");have z83:∃ f fd,Def K mg "variables_of" pY ["text"] f fd:=b8.ex X G Z.z83 (by walk_at "b1");have z84:∃ f fd,Def K mg "variable_table" pX ["number","how_many"] f fd:=b8.ex X G Z.z84 (by walk_at "b2");have z85:∃ f fd,Def K mg "combine" lI ["word","parts","yes"] f fd:=b8.ex X G Z.z85 (by walk_at "b3");have z86:∃ f fd,Def K mg "read_parts" rG ["reader","scope","how_many","inside"] f fd:=b8.ex X G Z.z86 (by walk_at "b4");have z87:∃ f fd,Def K mg "read_alone" uU ["token","scope"] f fd:=b8.ex X G Z.z87 (by walk_at "b2");have z88:∃ f fd,Def K mg "read_formula" uW ["reader","scope","inside"] f fd:=b8.ex X G Z.z88 (by walk_at "b3");have z89:∃ f fd,Def K mg "function_of" BX ["text","names"] f fd:=b8.ex X G Z.z89 (by walk_at "b2");have z90:∃ f fd,Def K mg "circuit_of" pU ["table","how_many"] f fd:=b8.ex X G Z.z90 (by walk_at "b2");have z91:∃ f fd,Def K mg "weight_of" j5 ["yes","no"] f fd:=b8.ex X G Z.z91 (by walk_at "b2");have z92:∃ f fd,Def K mg "weight_by_chance" gX ["chance"] f fd:=b8.ex X G Z.z92 (by walk_at "b1");have z93:∃ f fd,Def K mg "weights_of_one" xG ["how_many"] f fd:=b8.ex X G Z.z93 (by walk_at "b1");have z94:∃ f fd,Def K mg "weights_known_true" uY ["weights","known"] f fd:=b8.ex X G Z.z94 (by walk_at "b2");have z95:∃ f fd,Def K mg "node_value" lM ["node","earlier","weights"] f fd:=b8.ex X G Z.z95 (by walk_at "b3");have z96:∃ f fd,Def K mg "values_of" gZ ["circuit","weights"] f fd:=b8.ex X G Z.z96 (by walk_at "b2");have z97:∃ f fd,Def K mg "whole_of" lP ["circuit","weights"] f fd:=b8.ex X G Z.z97 (by walk_at "b2");have z98:∃ f fd,Def K mg "greater_of" lK ["first","second"] f fd:=b8.ex X G Z.z98 (by walk_at "b2");have z99:∃ f fd,Def K mg "greatest_of_node" uX ["node","earlier","weights"] f fd:=b8.ex X G Z.z99 (by walk_at "b3");have z100:∃ f fd,Def K mg "greatest_of" j3 ["circuit","weights"] f fd:=b8.ex X G Z.z100 (by walk_at "b2");have z101:∃ f fd,Def K mg "flow_to" mH ["flows","number","flow"] f fd:=b8.ex X G Z.z101 (by walk_at "b3");have z102:∃ f fd,Def K mg "flow_from" j0 ["node","flow","values","flows"] f fd:=b8.ex X G Z.z102 (by walk_at "b4");have z103:∃ f fd,Def K mg "flows_of" lJ ["circuit","values"] f fd:=b8.ex X G Z.z103 (by walk_at "b2");have z104:∃ f fd,Def K mg "parts_of" lN ["circuit","flows","kind","how_many"] f fd:=b8.ex X G Z.z104 (by walk_at "b4");have z105:∃ f fd,Def K mg "tell_fault" hZ ["fault"] f fd:=b8.ex X G Z.z105 (by walk_at "b1");have z106:∃ f fd,Def K mg "tell_fraction" pW ["fraction"] f fd:=b8.ex X G Z.z106 (by walk_at "b1");have z107:∃ f fd,Def K mg "answer_one" N1 ["desk","call","numbers"] f fd:=b8.ex X G Z.z107 (by walk_at "b3");have z108:∃ fd,Def K mg "answer_vars" (bO 0) ["desk","text"] f0 fd:=b8.df X G Z.z108 (by walk_at "b2");have z109:∃ fd,Def K mg "answer_add" (bO 1) ["desk","text"] f1 fd:=b8.df X G Z.z109 (by walk_at "b2");have z110:∃ fd,Def K mg "answer_size" (bO 2) ["desk","numbers"] f2 fd:=b8.df X G Z.z110 (by walk_at "b2");have z111:∃ fd,Def K mg "answer_node" (bO 3) ["desk","numbers"] f3 fd:=b8.df X G Z.z111 (by walk_at "b2");have z112:∃ fd,Def K mg "answer_weigh" (bO 4) ["desk","numbers"] f4 fd:=b8.df X G Z.z112 (by walk_at "b2");have z113:∃ fd,Def K mg "answer_clear" (bO 5) ["desk","numbers"] f5 fd:=b8.df X G Z.z113 (by walk_at "b2");have z114:∃ fd,Def K mg "answer_total" (bO 6) ["desk","numbers"] f6 fd:=b8.df X G Z.z114 (by walk_at "b2");have z115:∃ fd,Def K mg "answer_value" (bO 7) ["desk","numbers"] f7 fd:=b8.df X G Z.z115 (by walk_at "b2");have z116:∃ fd,Def K mg "answer_flow" (bO 8) ["desk","numbers"] f8 fd:=b8.df X G Z.z116 (by walk_at "b2");have z117:∃ fd,Def K mg "answer_parts" (bO 9) ["desk","numbers"] f9 fd:=b8.df X G Z.z117 (by walk_at "b2");have z118:∃ fd,Def K mg "answer_marginals" (bO 10) ["desk","numbers"] f10 fd:=b8.df X G Z.z118 (by walk_at "b2");have z119:∃ fd,Def K mg "answer_together" (bO 11) ["desk","numbers"] f11 fd:=b8.df X G Z.z119 (by walk_at "b2");have z120:∃ fd,Def K mg "answer_most" (bO 12) ["desk","numbers"] f12 fd:=b8.df X G Z.z120 (by walk_at "b2");have z121:∃ fd,Def K mg "answer_ways" (bO 13) ["desk","numbers"] f13 fd:=b8.df X G Z.z121 (by walk_at "b2");have yCT0:=PySem.W.mg_of X G Z.z1.at_;obtain ⟨yCT1,yCT2,yCT3,yCT4,yCT5⟩:=gQ (ps:=["self","kind","said","place","behind"]) Z.z1 Z.z6 (by walk_at "b5");have yCR0:=PySem.W.mg_of X G Z.z7.at_;obtain ⟨yCR1,yCR2,yCR3,yCR4,yCR5⟩:=gQ (ps:=["self","text"]) Z.z7 Z.z10 (by walk_at "b2");have z11:∃ f fd,bN K CR "token" "Reader.token" (sRd 1) ["self"] f fd:=bG.ex Z.z11 (by walk_at "b1");have z12:∃ f fd,bN K CR "is_at_end" "Reader.is_at_end" (sRd 2) ["self"] f fd:=bG.ex Z.z12 (by walk_at "b1");have z13:∃ f fd,bN K CR "is_at_sign" "Reader.is_at_sign" (sRd 3) ["self","sign"] f fd:=bG.ex Z.z13 (by walk_at "b2");have z14:∃ f fd,bN K CR "refuse" "Reader.refuse" (sRd 4) ["self"] f fd:=bG.ex Z.z14 (by walk_at "b1");have z15:∃ f fd,bN K CR "step" "Reader.step" (sRd 5) ["self"] f fd:=bG.ex Z.z15 (by walk_at "b1");have z16:∃ f fd,bN K CR "take_kind" "Reader.take_kind" (sRd 6) ["self","kind"] f fd:=bG.ex Z.z16 (by walk_at "b2");have z17:∃ f fd,bN K CR "take_sign" "Reader.take_sign" (sRd 7) ["self","sign"] f fd:=bG.ex Z.z17 (by walk_at "b2");have z18:∃ f fd,bN K CR "take_name" "Reader.take_name" (sRd 8) ["self"] f fd:=bG.ex Z.z18 (by walk_at "b1");have yCV0:=PySem.W.mg_of X G Z.z19.at_;obtain ⟨yCV1,yCV2,yCV3,yCV4,yCV5⟩:=gQ (ps:=["self"]) Z.z19 Z.z22 (by walk_at "b1");have yCS0:=PySem.W.mg_of X G Z.z23.at_;obtain ⟨yCS1,yCS2,yCS3,yCS4,yCS5⟩:=gQ (ps:=["self","names"]) Z.z23 Z.z26 (by walk_at "b2");have yCD0:=PySem.W.mg_of X G Z.z27.at_;obtain ⟨yCD1,yCD2,yCD3,yCD4,yCD5⟩:=gQ (ps:=["self"]) Z.z27 Z.z32 (by walk_at "b1");have z33:∃ f fd,bN K CD "hold" "Desk.hold" (sDk 1) ["self","variables"] f fd:=bG.ex Z.z33 (by walk_at "b2");have z34:∃ f fd,bN K CD "weigh_by_chances" "Desk.weigh_by_chances" (sDk 2) ["self"] f fd:=bG.ex Z.z34 (by walk_at "b1");have z35:∃ f fd,bN K CD "has_circuit" "Desk.has_circuit" (sDk 3) ["self","number"] f fd:=bG.ex Z.z35 (by walk_at "b2");have z36:∃ f fd,bN K CD "has_variable" "Desk.has_variable" (sDk 4) ["self","number"] f fd:=bG.ex Z.z36 (by walk_at "b2");have yCC0:=PySem.W.mg_of X G Z.z37.at_;obtain ⟨yCC1,yCC2,yCC3,yCC4,yCC5⟩:=gQ (ps:=["self","nodes","root"]) Z.z37 Z.z40 (by walk_at "b3");have z41:∃ f fd,bN K CC "has_node" "Circuit.has_node" (sCi 1) ["self","number"] f fd:=bG.ex Z.z41 (by walk_at "b2");have z42:∃ f fd,bN K CC "count_kind" "Circuit.count_kind" (sCi 2) ["self","kind"] f fd:=bG.ex Z.z42 (by walk_at "b2");have yCW0:=PySem.W.mg_of X G Z.z43.at_;obtain ⟨yCW1,yCW2,yCW3,yCW4,yCW5⟩:=gQ (ps:=["self","yes","no","bottom"]) Z.z43 Z.z47 (by walk_at "b4");have yCM0:=PySem.W.mg_of X G Z.z48.at_;obtain ⟨yCM1,yCM2,yCM3,yCM4,yCM5⟩:=gQ (ps:=["self","how_many"]) Z.z48 Z.z53 (by walk_at "b2");have z54:∃ f fd,bN K CM "put" "Maker.put" (sMk 1) ["self","node"] f fd:=bG.ex Z.z54 (by walk_at "b2");have z55:∃ f fd,bN K CM "put_sum" "Maker.put_sum" (sMk 2) ["self","a","b"] f fd:=bG.ex Z.z55 (by walk_at "b3");have z56:∃ f fd,bN K CM "put_product" "Maker.put_product" (sMk 3) ["self","a","b"] f fd:=bG.ex Z.z56 (by walk_at "b3");have z57:∃ f fd,bN K CM "make_asked" "Maker.make_asked" (sMk 4) ["self","variable","when_false","when_true"] f fd:=bG.ex Z.z57 (by walk_at "b4");have z58:∃ f fd,bN K CM "make_not_asked" "Maker.make_not_asked" (sMk 5) ["self","variable","either"] f fd:=bG.ex Z.z58 (by walk_at "b3");have z59:∃ f fd,bN K CM "make_new" "Maker.make_new" (sMk 6) ["self","variable","table"] f fd:=bG.ex Z.z59 (by walk_at "b3");have z60:∃ f fd,bN K CM "make" "Maker.make" (sMk 7) ["self","variable","table"] f fd:=bG.ex Z.z60 (by walk_at "b3");have yCG0:=PySem.W.mg_of X G Z.z61.at_;obtain ⟨yCG1,yCG2,yCG3,yCG4,yCG5⟩:=gQ (ps:=["self","top","bottom","ways"]) Z.z61 Z.z65 (by walk_at "b4");have z123:=Z.z123.gi X G;have z124:=Z.z124.gi X G;have z125:=Z.z125.gi X G;have z126:=Z.z126.gi X G;have z127:=Z.z127.gi X G;have z128:=Z.z128.gi X G;have z129:=Z.z129.gi X G;have z130:=Z.z130.gi X G;have z131:=Z.z131.gi X G;have z132:=Z.z132.gi X G;have z133:=Z.z133.gi X G;have z134:=Z.z134.gi X G;have z135:=Z.z135.gi X G;have z136:=Z.z136.gi X G;have z137:=Z.z137.gi X G;have z138:=Z.z138.gi X G;have z139:=Z.z139.gi X G;have z140:=Z.z140.gi X G;have z141:=Z.z141.gi X G;have z142:=Z.z142.gi X G;have z143:=Z.z143.gi X G;have z144:=Z.z144.gi X G;have z145:=Z.z145.gi X G;have z146:=Z.z146.gi X G;have z147:=Z.z147.gi X G;have z148:=Z.z148.gi X G;have z149:=Z.z149.gi X G;have z150:=Z.z150.gi X G;have z151:=Z.z151.gi X G;have z152:=Z.z152.gi X G;have z153:=Z.z153.gi X G;have z154:=Z.z154.gi X G;have z155:=Z.z155.gi X G;have z156:=Z.z156.gi X G;have z157:=Z.z157.gi X G;have z158:=Z.z158.gi X G;have z159:=Z.z159.gs X G;have z160:=Z.z160.gs X G;have z161:=Z.z161.gt X G;have z162:=Z.z162.gt X G;have z163:=Z.z163.gt X G;have z164:=Z.z164.gt X G;have z165:=Z.z165.gt X G;have z166:=Z.z166.gt X G;have z167:=Z.z167.gt X G;rw[TU] at z162;have z168:=Z.z168.gt X G;have z169:mg "len" = none:=PySem.W.mg_none_of X G Z.z169;have z170:mg "abs" = none:=PySem.W.mg_none_of X G Z.z170;have z171:mg "range" = none:=PySem.W.mg_none_of X G Z.z171;have z172:mg "list" = none:=PySem.W.mg_none_of X G Z.z172;have z173:mg "enumerate" = none:=PySem.W.mg_none_of X G Z.z173;have z174:∃ a,mg "SIGNS" = some (.ref a)/\xQ P w K a v7:=QS▸Z.z174.gd X G (by decide);have yPC:∃ a,mg "PART_COUNTS" = some (.ref a)/\xQ P w K a nQ:=Z.z175.gd X G (by decide)
 have FC:∃ f fd,gE K mg C f fd:=by
  obtain ⟨f,_,x1,x2,x3⟩:=Z.z0.ini;obtain ⟨fd,F,B⟩:=x3.fn (ps:=["self","code","place"]) (by walk_at "b3");exact ⟨f,fd,Z.z0.xc,⟨x1,x2,Z.z0.kp⟩,Z.z0.nC,Z.z0.nP,PySem.W.mg_of X G Z.z0.at_,F,B⟩
 have TKc:∃ f fd,fJ K mg CT f fd:=⟨_,_,Z.z1.cl,yCT3,Z.z2,Z.z3,Z.z4,Z.z5,yCT0,yCT4,yCT5⟩
 have RC:sC K mg CR:=⟨Z.z7.cl,Z.z8,Z.z9,yCR0,z11,z12,z13,z14,z15,z16,z17,z18⟩
 have TG:oO K mg C CR CT:=⟨z125,z132,Z.z176,RC,TKc,FC⟩
 have NG:wB K mg:=⟨z130,z162,z68⟩
 have RI:∃ f fd,xT K CR f fd:=⟨_,_,yCR3,yCR4,yCR5⟩
 have rat:KG K mg:=⟨z170,z77,z78⟩
 have RV:KF K mg C CR CT CV:=⟨TG,NG,⟨z169,z144,z126,z127⟩,⟨z131,z129,z170,z77,z78,z80⟩,
  ⟨_,_,Z.z19.cl,yCV3,Z.z20,Z.z21,yCV0,yCV4,yCV5⟩,Z.z177,z79,z81⟩
 have NUM:S8 mg:=⟨z169,z140,z136,z124,z142,z137,z131⟩
 have WDG:KM mg:=⟨z169,z135,z124,z142,z160,z130⟩
 have TSG:R8 P w K mg:=⟨⟨NUM,WDG,z141,z132,z159,z174⟩,z138,z139,z161,z134,z123,z133⟩
 have toks:∀ base:Heap,∃ g gd,Def K mg "tokens_of" eQ ["text"] g gd/\aN P w K mg base (CXF P w C) 5 g gd ["text"] (rQ K C CT):=λbase=>by
  obtain ⟨g,gd,F⟩:=z76;obtain ⟨g1,e1,D1⟩:=z66;obtain ⟨g2,e2,D2⟩:=z67;obtain ⟨g3,e3,D3⟩:=z71;obtain ⟨g4,e4,D4⟩:=z72;obtain ⟨g5,e5,D5⟩:=z73;obtain ⟨g6,e6,D6⟩:=z74;obtain ⟨g7,e7,D7⟩:=z75;obtain ⟨g8,e8,D8⟩:=z70;obtain ⟨g9,e9,D9⟩:=z69;obtain ⟨fC,cd,FC⟩:=FC;obtain ⟨fT,td,TKc⟩:=TKc;exact ⟨g,gd,F,PU TSG F ⟨D1,D2,D3,D4,D5,D6⟩ D7 D8 D9 FC TKc⟩
 have FG:AD P w K mg C CR CT CS:=⟨TG,⟨z125,z128,NG,TKc,FC,⟨_,_,Z.z23.cl,yCS3,Z.z24,Z.z25,yCS0,yCS4,yCS5⟩⟩,z169,Z.z178,z143,z126,z86,z87,z85⟩
 have CMm:rY K mg CC:=⟨Z.z37.cl,Z.z38,Z.z39,z169⟩
 have KI:tG mg:=⟨z145,z146,z147,z148,z149⟩
 have MCm:OF K mg CM:=⟨Z.z48.cl,Z.z49,Z.z50,Z.z51,Z.z52,yCM0,z169⟩
 have MG:tH K mg CM:=⟨⟨MCm,z163,z164,z148,z149,z54⟩,z147,z146,z145,z55,z56⟩
 have CGm:K8 K mg CM CC:=⟨MG,(by
   obtain ⟨f,fd,D⟩:=z60
   exact ⟨f,fd,D,z59,z58,z57⟩),⟨_,_,yCM3,yCM4,yCM5⟩,⟨_,_,Z.z37.cl,yCC3,Z.z38,Z.z39,yCC0,yCC4,yCC5⟩⟩
 have WC:∃ f fd,eU K mg CW f fd:=⟨_,_,Z.z43.cl,yCW3,Z.z44,Z.z45,Z.z46,yCW0,yCW4,yCW5⟩
 have GC:∃ f fd,xR K mg CG f fd:=⟨_,_,Z.z61.cl,yCG3,Z.z62,Z.z63,Z.z64,yCG0,yCG4,yCG5⟩
 have T:rZ K mg CD:=⟨Z.z27.cl,Z.z28,Z.z29,Z.z30,Z.z31,yCD0,z169⟩
 have VG:OJ K mg CC CW:=⟨KI,CMm,WC,z95⟩
 have FLG:F8 K mg CC:=⟨KI,CMm,z171,z101,z102⟩
 have GG:xS K mg CC CW CG:=⟨KI,CMm,WC,GC,z98,z99⟩
 have LK:kL K mg CD CC CW CG:=⟨T,KI,CMm,rat,z172,z171,z155,z156,VG,FLG,GG,z106,z96,z97,z103,z104,z100,z93,z94,z41,z42,z36⟩
 have HG:KC K mg CD CW CV:=⟨Z.z179,Z.z180,T,WC,z92,z34,Z.z19.cl,Z.z20,Z.z21⟩
 let fs:Nat->Addr:=λn=>match n with
  | 0=>f0|1=>f1|2=>f2|3=>f3|4=>f4|5=>f5|6=>f6|7=>f7|8=>f8|9=>f9|10=>f10|11=>f11|12=>f12|_=>f13
 have ALL:∀ base:Heap,UQ P w K mg base C CR CT CV CS CD CC CW CM CG fs:=λbase=>
  ⟨⟨LK,⟨T,FC,z105,⟨RV,z133,RI,toks base,z82⟩,z83,HG,z33,z36,⟨FG,yPC,z88,⟨z169,z173,z84⟩,z133,RI,toks base⟩,z89,CGm,z90,CMm,Z.z181,z150,z151,z154,z157,z155,rat,z91⟩,
   z35,z158,z152,z153,z167,z168,z108,z109,z110,z111,z112,z113,z114,z115,z116,z117,z118,z119,z120,z121⟩,⟨_,_,yCD3,yCD4,yCD5⟩,z107,z165,z166⟩
 obtain ⟨f,a1,oc,od,kV,doc,pm,an,cdv,ct,sl,l,c,k⟩:=Z.z122;have e:=hfa.symm.trans (PySem.W.mg_of X G a1);cases e;have F:=LD (st:=pS) l c k;have B:=F.binds (ps:=["calls"]) (by walk_at "b1");exact ⟨_,λs=>ln1 λ_=>.of_eq rfl,λbase _ _=>DT (ALL base) ⟨F,hfa,B⟩⟩
end
end TC
local macro_rules|`(tactic| walk_at "w0")=>`(tactic| (first|k_is|(unfold L2.aZ;k_is)|(unfold TC.NoW;k_is)))
local macro_rules|`(tactic| walk_at "w1")=>`(tactic| (refine' ⟨?a,⟨?b,?c,?d,?e⟩,?f,?g⟩;(case a=>k_is);(case b=>k_is);(case c=>k_is);(case d=>k_is);(case e=>k_is);(case f=>k_is);(case g=>k_is)))
local macro_rules|`(tactic| walk_at "w2")=>`(tactic| (refine' TC.fnw ?l ?c ?k;(case l=>k_is);(case c=>k_is);(case k=>k_is)))
local macro_rules|`(tactic| walk_at "w3")=>`(tactic| (refine' TC.mtw ?a ?b ?l;(case a=>k_is);(case b=>k_is);(case l=>walk_at "w2")))
local macro_rules|`(tactic| walk_at "w5")=>`(tactic| (refine' TC.dfw ?a ?l;(case a=>k_is);(case l=>walk_at "w2")))
local macro_rules|`(tactic| walk_at "w4")=>`(tactic| (refine' ⟨?a,?l⟩;(case a=>k_is);(case l=>walk_at "w2")))
local macro_rules|`(tactic| walk_at "w6")=>`(tactic| (refine' TC.giw ?a;(case a=>k_is)))
local macro_rules|`(tactic| walk_at "w7")=>`(tactic| (refine' TC.gsw ?a;(case a=>k_is)))
local macro_rules|`(tactic| walk_at "w8")=>`(tactic| repeat' (first|exact PySem.Paired.nil|refine PySem.Paired.cons ?_ ?_|exact ⟨_,rfl⟩|exact rfl))
local macro_rules|`(tactic| walk_at "w9")=>`(tactic| (refine' TC.gtw ?a ?l ?z ?v;(case a=>k_is);(case l=>k_is);(case z=>first|decide|(show _<=_;decide +kernel));(case v=>walk_at "w8")))
local macro_rules|`(tactic| walk_at "w10")=>`(tactic| (refine' TC.ftw ?a ?b ?f ?g ?h ?i ?j ?m ?l;(case a=>k_is);(case b=>refine' TC.xcw ?c ?d ?e ?n ?o ?p;(case c=>k_is);(case d=>rfl);(case e=>rfl);(case n=>k_is);(case o=>k_is);(case p=>k_is));(case f=>walk_at "w0");(case g=>walk_at "w0");(case h=>k_is);(case i=>k_is);(case j=>first|kernel_rfl|rfl);(case m=>k_is);(case l=>walk_at "w2")))
local macro_rules|`(tactic| walk_at "w11")=>`(tactic| (refine' TC.dctw ?a ?s ?l ?v;(case a=>k_is);(case s=>decide);(case l=>k_is);(case v=>repeat' (first|exact PySem.Paired.nil|refine PySem.Paired.cons ⟨_,rfl,rfl,rfl,⟨_,rfl⟩⟩ ?_))))
open PySem PySem.W PyProof.Rows
set_option maxRecDepth 100000 in
set_option maxHeartbeats 0 in
theorem PySem.Challenge.cw_truthcircuitsdesk_s01_answers_holds : PySem.Challenge.rw_truthcircuitsdesk_s01_answers.Holds := by
  refine Hq ?_
  k_fillS
  refine L2.F5 (r := PySem.Challenge.rw_truthcircuitsdesk_s01_answers) (k := 57) (CX := L2.CX0) (ps := ["calls"]) (sp := TC.mK) (by decide +kernel) rfl rfl ⟨rfl, by decide, by decide⟩ (fun w h Y => PySem.W.kIn_of Y) ?F ?S (fun _ _ _ _ z => z)
  case F =>
    intro w mg fa h Y KX G hmg
    refine' TC.SB KX G hmg ?Z
    case Z =>
      constructor <;> first | walk_at "w0" | walk_at "w5" | walk_at "w6" | walk_at "w3" | walk_at "w4" | walk_at "w1" | walk_at "w9" | walk_at "w7" | walk_at "w11" | walk_at "w10" | decide
  case S =>
    intro K H xs a hO hwi hask hx
    cases hx with
    | cons h1 h2 =>
      cases h2
      cases h1 with
      | lst hs ha =>
        have e := L2.FY a.1 _ ha
        subst e
        exact ⟨_, a.1, rfl, hs, hask, fun H' p hp => .lst (L2.SqL.of hp) (L2.FQ _)⟩
