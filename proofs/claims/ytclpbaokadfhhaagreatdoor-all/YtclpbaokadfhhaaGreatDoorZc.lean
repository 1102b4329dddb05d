import Derived.Test.YtclpbaokadfhhaaGreatDoorZa
import Init
set_option maxHeartbeats 4000000
open List renaming not_mem_nil->Qa,mem_cons->Qc,all_eq_true->Qd
open Nat renaming mul_comm->Qe,pow_succ->Qf,div_add_mod->Qg,pow_mul->Qi,mul_mod->Qj,mod_eq_of_lt->Qk,pow_mod->Qm,pow_add->Qn,mod_lt->Qo,sub_add_cancel->Qp,gcd->Qq,mul_le_mul->Qt,zero_mod->Qx,mod_mod->Qy,Coprime->Qz
open Bool renaming and_eq_true->QA
namespace Go.Proofs.YtclpbaokadfhhaaGreatDoor
def ot(n:Nat):Prop:=2<=n/\ ∀d,d∣n->d=1\/d=n
def xF(N:Nat):Nat->Nat->Nat->Nat
 |0,_,_=>1%N
 |f+1,a,e=>if e%2=1 then a*xF N f (a*a%N) (e/2)%N else xF N f (a*a%N) (e/2)
theorem zz(N:Nat):∀(f a e:Nat),e<2^f->xF N f a e=a^e%N
 |0,a,e,h=>by
  have:e=0:=by simpa using h
  subst this;simp[xF]
 |f+1,a,e,h=>by
  have h2:e/2<2^f:=by rw[Qf]at h;omega
  have d:=zz N f (a*a%N) (e/2) h2;have b:(a*a)^(e/2)=a^(2*(e/2)):=by rw[Qi,Nat.pow_two]
  rw[xF,d,<-Qm,b];split
  .rename_i c
   conv=>rhs;rw[show e=2*(e/2)+1 by omega,Qf,Qe]
   rw[Nat.mul_mod_mod]
  .rename_i c
   conv=>rhs;rw[show e=2*(e/2) by omega]
theorem Yy{p:Nat->Prop}:∀n,p n-> ∃m,p m/\ ∀k,k<m-> ¬p k:=by
 intro n;induction n using Nat.strongRecOn with
 |ind n ih=>
  intro hn;by_cases h:∃k,k<n/\p k
  .obtain⟨k,hk,hp⟩:=h;exact ih k hk hp
  .exact⟨n,hn,λk hk hp=>h ⟨k,hk,hp⟩⟩
theorem Md:∀(n:Nat) (f:Nat->Nat),(∀i,i<n->f i<n)->(∀i j,i<n->j<n->f i=f j->i=j)-> ∀a,a<n-> ∃i,i<n/\f i=a
 |0,_,_,_,a,p=>by omega
 |n+1,f,l,d,a,p=>by
  have r:∀i,i<n->f i=n->f n<n:=by
   intro i h h2;have:=l n oo;have b:f n≠n:=λe=>by have:=d i n oo oo (by rw[h2,e]);omega
   omega
  have o:=Md n (λi=>if f i=n then f n else f i)
   (by
    intro i h;show(if f i=n then f n else f i)<n
    split
    .exact r i h (by assumption)
    .have:=l i oo;omega)
   (by
    intro i j h h2 b;have b:=b;by_cases k:f i=n
    .by_cases g:f j=n
     .exact d i j oo oo (by rw[k,g])
     .rw[if_pos k,if_neg g]at b;have:=d n j oo oo b;omega
    .by_cases g:f j=n
     .rw[if_neg k,if_pos g]at b;have:=d i n oo oo b;omega
     .rw[if_neg k,if_neg g]at b;exact d i j oo oo b)
  by_cases m:a=f n
  .exact⟨n,oo,m.symm⟩
  .by_cases s:a=n
   .have q:f n<n:=by have:=l n oo;omega
    obtain⟨i,h,h2⟩:=o (f n) q;have h2:=h2;by_cases c:f i=n
    .exact⟨i,oo,oo⟩
    .rw[if_neg c]at h2;have:=d i n oo oo h2;omega
   .obtain⟨i,h,h2⟩:=o a oo;have h2:=h2;by_cases c:f i=n
    .rw[if_pos c]at h2;exact absurd h2.symm m
    .rw[if_neg c]at h2;exact⟨i,oo,h2⟩
def tz:List Nat->Nat
 | []=>1
 |a::l=>a*tz l
theorem Al(t:Nat):∀L:List Nat,(∀q∈L,Qq t q=1)->Qq t (tz L)=1
 | [],_=>by simp[tz]
 |a::l,h=>by
  have b:=h a ss;have h2:=Al t l (λq c=>h q (by simp[c]));exact Nat.Coprime.mul_right b h2
theorem OL(t:Nat)(L:List Nat)(c:∀q∈L,ot q)(ht:t∣tz L)(b:t≠1):∃q,q∈L/\q∣t:=by
 by_cases h:∃q,q∈L/\q∣t
 .exact h
 .exfalso
  have:Qq t (tz L)=1:=by
   apply Al
   intro q a;rcases(c q a).2 (Qq t q) (Nat.gcd_dvd_right t q)with e|e
   .exact e
   .exact absurd ⟨q,a,by have:=Nat.gcd_dvd_left t q;rwa [e]at this⟩ h
  rw[Nat.gcd_eq_left ht]at this;exact b this
theorem K7{N:Nat}{a:Nat}(b:a%N=1)(c:2<=N)(k:Nat):a^k%N=1:=by
 rw[Qm,b,Nat.one_pow,Qk oo]
theorem Gj{N:Nat}{a b:Nat}(c:a%N=1):a*b%N=b%N:=by
 rw[Qj,c,Nat.one_mul,Qy]
theorem Yx{N g:Nat}(L:List Nat)(G:3<=N)(o:∀q∈L,ot q)(C:tz L=N-1)(d:g^(N-1)%N=1)(B:∀q∈L,g^((N-1)/q)%N≠1):
  ∀a,a%N≠0->a^(N-1)%N=1:=by
 obtain⟨m,⟨A,u⟩,v⟩:=Yy (p:=λk=>0<k/\g^k%N=1) (N-1) ⟨oo,d⟩
 -- the order divides N-1
 have I:(N-1)%m=0:=by
  have t:=Qo (N-1) A;by_cases n:(N-1)%m=0
  .exact n
  .exfalso
   apply v ((N-1)%m) t
   refine⟨oo,?_⟩;have e:g^(N-1)=(g^m)^((N-1)/m)*g^((N-1)%m):=by
    rw[<-Qi,<-Qn,Qg]
   rw[e,Gj (K7 u oo _)]at d;exact d
 have K:m=N-1:=by
  have e:N-1=m*((N-1)/m):=by have:=Qg (N-1) m;omega
  by_cases ht:(N-1)/m=1
  .rw[ht]at e;omega
  .exfalso
   have z:(N-1)/m∣tz L:=by rw[C];exact⟨m,by rw[Qe];exact e⟩
   obtain⟨q,w,s,D⟩:=OL _ L o z ht;have M:=(o q w).1;apply B q w
   have y:(N-1)/q=m*s:=by
    rw[D]at e;rw[e,Nat.mul_left_comm,Nat.mul_div_cancel_left _ oo]
   rw[y,Qi];exact K7 u oo s
 have x:∀i,i<N-1->g^(N-1-i)*g^i%N=1:=by
  intro i b;rw[<-Qn,Qp oo];exact d
 have r:∀i j,i<j->j<N-1->g^i%N=g^j%N->False:=by
  intro i j J l c;apply v (j-i) oo
  refine⟨oo,?_⟩;have h2:=x i oo;rw[Qj,c,<-Qj,<-Qn]at h2;have e:N-1-i+j=(N-1)+(j-i):=oo
  rw[e,Qn,Gj d]at h2;exact h2
 have f:∀i,i<N-1->g^i%N≠0:=by
  intro i b n;have h2:=x i b;rw[Qj,n]at h2;simp at h2
 intro a H;have t:a%N<N:=Qo _ oo;obtain⟨i,b,c⟩:=Md (N-1) (λi=>g^i%N-1)
  (by
   intro i b;have:=Qo (g^i) (show N>0 by omega);show g^i%N-1<N-1
   have:=f i b;omega)
  (by
   intro i j b l c;have c:=c;have E:=f i b;have F:=f j l;have e:g^i%N=g^j%N:=oo
   rcases Nat.lt_trichotomy i j with h|h|h
   .exact(r i j h l e).elim
   .exact h
   .exact(r j i h b e.symm).elim)
  (a%N-1) oo
 have c:=c;have:=f i b;have e:a%N=g^i%N:=oo
 rw[Qm,e,<-Qm,<-Qi,Qe,Qi];exact K7 d oo i
theorem qL{N:Nat}(g:3<=N)(h:∀a,a%N≠0->a^(N-1)%N=1):ot N:=by
 refine⟨oo,?_⟩;intro d b;by_cases e:d=N
 .exact .inr e
 .left
  have i:=Nat.le_of_dvd oo b;have h0:d≠0:=by
   rintro rfl;have:=Nat.eq_zero_of_zero_dvd b;omega
  have f:=h d (by rw[Qk oo];exact h0);have h2:d∣d^(N-1):=⟨d^(N-2),by rw[Qe,<-Qf];congr 1;omega⟩;have c:=(Nat.dvd_mod_iff b).2 h2;rw[f]at c;exact Nat.dvd_one.1 c
def Me(N g:Nat)(L:List Nat):Bool:=
 decide (3<=N)&&decide (N<2^256)&&decide (tz L=N-1)&&decide (xF N 256 g (N-1)=1)&&L.all λq=>decide (xF N 256 g ((N-1)/q)≠1)
theorem pw{N g:Nat}{L:List Nat}(h:Me N g L=true)(f:∀q∈L,ot q):∀a,a%N≠0->a^(N-1)%N=1:=by
 simp only[Me,QA,decide_eq_true_eq,Qd]at h;obtain⟨⟨⟨⟨b,h2⟩,c⟩,d⟩,e⟩:=h;refine Yx (g:=g) L b f c ?_ ?_
 .rw[<-zz N 256 g (N-1) oo];exact d
 .intro q i;have:=e q i;rw[zz N 256 g _ (Nat.lt_of_le_of_lt (Nat.div_le_self _ _) oo)]at this;exact this
def wX(n:Nat):Nat->Nat->Bool
 |0,_=>true
 |f+1,k=>decide (n%k≠0)&&wX n f (k+1)
theorem Gk(n:Nat):∀(f k:Nat),wX n f k=true-> ∀j,k<=j->j<k+f->n%j≠0
 |0,k,_,j,a,h2=>by omega
 |f+1,k,h,j,a,h2=>by
  simp only[wX,QA,decide_eq_true_eq]at h;by_cases e:j=k
  .subst e;exact h.1
  .exact Gk n f (k+1) h.2 j (by omega) (by omega)
theorem Ez(n f:Nat)(h:wX n f 2=true)(h2:2<=n)(p:n<(f+2)*(f+2)):ot n:=by
 refine⟨h2,?_⟩;intro d i;obtain⟨e,g⟩:=i;have k:∀j,2<=j->j<2+f-> ¬j∣n:=λj b c a=>Gk n f 2 h j b c (Nat.mod_eq_zero_of_dvd a)
 by_cases b:d=1
 .exact .inl b
 by_cases c:e=1
 .right;rw[g,c,Nat.mul_one]
 exfalso
 have l:d≠0:=by rintro rfl;omega
 have m:e≠0:=by rintro rfl;omega
 have i:¬d<2+f:=λa=>k d oo a ⟨e,g⟩
 have o:¬e<2+f:=λa=>k e oo a ⟨d,by rw[g,Qe]⟩
 have:=Qt (show f+2<=d by omega) (show f+2<=e by omega);omega
theorem Mc(l:List Nat)(h:l.all (λn=>wX n 1500 2||(wX n (n-2) 2))=true)(h2:l.all (λn=>decide (2<=n)&&decide (n<2000000))=true):∀q∈l,ot q:=by
 intro q c;have a:=Qd.1 h q c;have b:=Qd.1 h2 q c;simp only[QA,decide_eq_true_eq,Bool.or_eq_true]at a b;rcases a with a|a
 .exact Ez q 1500 a b.1 oo
 .refine Ez q (q-2) a b.1 ?_;have:q-2+2=q:=oo
  rw[this];have:=Qt b.1 (Nat.le_refl q);omega
theorem yN:∀q∈ [2,3,5,7,13,19,31,47,103,107,127,223,353,991],ot q:=Mc _ dk dk
theorem BH:∀q∈ [2437,4153,57467,65147,75707,132049,430751,569003,1923133],ot q:=Mc _ dk dk
theorem acK:ot 8574133:=qL oo (pw (g:=2) (L:=[2,2,3,7,103,991]) dk (by
 intro q a;exact yN q (by simp only[Qc,Qa,or_false]at a|-;omega)))
theorem acJ:ot 2773320623:=qL oo (pw (g:=5) (L:=[2,2437,569003]) dk (by
 intro q a;simp only[Qc,Qa,or_false]at a;rcases a with rfl|rfl|rfl
 .exact yN 2 ss
 .exact BH _ ss
 .exact BH _ ss))
theorem acI:ot 72106336199:=qL oo (pw (g:=7) (L:=[2,13,2773320623]) dk (by
 intro q a;simp only[Qc,Qa,or_false]at a;rcases a with rfl|rfl|rfl
 .exact yN 2 ss
 .exact yN _ ss
 .exact acJ))
theorem acH:ot 1919519569386763:=qL oo (pw (g:=2) (L:=[2,3,7,19,47,47,127,8574133]) dk (by
 intro q a;simp only[Qc,Qa,or_false]at a;by_cases h:q=8574133
 .subst h;exact acK
 .exact yN q (by simp only[Qc,Qa,or_false];omega)))
theorem acG:ot 31757755568855353:=qL oo (pw (g:=10) (L:=[2,2,2,3,31,107,223,4153,430751]) dk (by
 intro q a;simp only[Qc,Qa,or_false]at a;by_cases h:q=4153\/q=430751
 .exact BH q (by simp only[Qc,Qa,or_false];omega)
 .exact yN q (by simp only[Qc,Qa,or_false];omega)))
theorem acF:ot 75445702479781427272750846543864801:=qL oo (pw (g:=7) (L:=[2,2,2,2,2,3,3,5,5,75707,1919519569386763,72106336199]) dk (by
 intro q a;simp only[Qc,Qa,or_false]at a;by_cases h:q=1919519569386763
 .subst h;exact acH
 by_cases h:q=72106336199
 .subst h;exact acI
 by_cases h:q=75707
 .subst h;exact BH _ ss
 .exact yN q (by simp only[Qc,Qa,or_false];omega)))
theorem acE:ot 74058212732561358302231226437062788676166966415465897661863160754340907:=qL oo (pw (g:=2) (L:=[2,3,353,57467,132049,1923133,31757755568855353,75445702479781427272750846543864801]) dk (by
 intro q a;simp only[Qc,Qa,or_false]at a;by_cases h:q=31757755568855353
 .subst h;exact acG
 by_cases h:q=75445702479781427272750846543864801
 .subst h;exact acF
 by_cases h:q=2\/q=3\/q=353
 .exact yN q (by simp only[Qc,Qa,or_false];omega)
 .exact BH q (by simp only[Qc,Qa,or_false];omega)))
def bW:Nat:=57896044618658097711785492504343953926634992332820282019728792003956564819949
theorem Mf:∀a,a%bW≠0->a^(bW-1)%bW=1:=pw (g:=2) (L:=[2,2,3,65147,74058212732561358302231226437062788676166966415465897661863160754340907]) dk (by
 intro q b;simp only[Qc,Qa,or_false]at b;by_cases h:q=74058212732561358302231226437062788676166966415465897661863160754340907
 .subst h;exact acE
 by_cases h:q=65147
 .subst h;exact BH _ ss
 .exact yN q (by simp only[Qc,Qa,or_false];omega))
theorem UH{q:Nat} [NeZero q](d f g a b c e k m o i l n p j:Fin q)
  (u:k=f*b+a*g) (h2:m=g*b+f*a) (v:o=1+d*f*a*g*b) (w:i=1-d*f*a*g*b)
  (x:l=a*e+c*b) (y:n=b*e+a*c) (z:p=1+d*a*c*b*e) (C:j=1-d*a*c*b*e)
  (r:g*g-f*f-1-d*f*f*g*g=0) (s:b*b-a*a-1-d*a*a*b*b=0) (t:e*e-c*c-1-d*c*c*e*e=0):
  (k*i*e+c*m*o)*(p*j+d*l*n*f*g)=(f*n*p+l*j*g)*(o*i+d*k*m*c*e):=by
 subst u h2 v w x y z C;have h:((f*b+a*g)*(1-d*f*a*g*b)*e+c*(g*b+f*a)*(1+d*f*a*g*b))*((1+d*a*c*b*e)*(1-d*a*c*b*e)+d*(a*e+c*b)*(b*e+a*c)*f*g)
   - (f*(b*e+a*c)*(1+d*a*c*b*e)+(a*e+c*b)*(1-d*a*c*b*e)*g)*((1+d*f*a*g*b)*(1-d*f*a*g*b)+d*(f*b+a*g)*(g*b+f*a)*c*e)
   =(-d*d*f*a*a*a*a*c*c*b*b*b*e-d*d*f*a*a*a*c*b*b*b*b*e*e+d*d*a*a*a*a*c*g*b*b*b*e*e+d*d*a*a*a*c*c*g*b*b*b*b*e-d*f*a*a*a*a*c*c*b*e-d*f*a*a*a*c*c*c*b*b-d*f*a*a*a*c*b*b+d*f*a*a*b*b*b*e*e*e-d*f*a*a*b*b*b*e+d*f*a*c*b*b*b*b*e*e+d*a*a*a*a*c*g*b*e*e+d*a*a*a*g*b*b*e*e*e-d*a*a*a*g*b*b*e-d*a*a*c*c*c*g*b*b*b-d*a*a*c*g*b*b*b-d*a*c*c*g*b*b*b*b*e)*(g*g-f*f-1-d*f*f*g*g)
   +(d*d*f*f*a*a*c*c*c*g*b*e*e-d*d*f*f*a*c*c*g*b*b*e*e*e-d*d*f*a*a*c*c*g*g*b*e*e*e+d*d*f*a*c*c*c*g*g*b*b*e*e+d*f*f*f*a*a*c*c*b*e+d*f*f*f*a*c*c*c*e*e+d*f*f*f*a*c*b*b*e*e+d*f*f*f*c*c*b*e*e*e-d*f*f*a*a*c*g*b*e*e-d*f*f*a*c*c*g*b*b*e+d*f*f*a*c*c*g*e*e*e+d*f*f*c*c*c*g*b*e*e-d*f*a*a*c*c*g*g*b*e+d*f*a*a*c*c*b*e-d*f*a*c*c*c*g*g*e*e+d*f*a*c*c*c*e*e-d*f*a*c*g*g*b*b*e*e+d*f*a*c*b*b*e*e-d*f*c*c*g*g*b*e*e*e+d*f*c*c*b*e*e*e+d*a*a*c*g*g*g*b*e*e-d*a*a*c*g*b*e*e+d*a*c*c*g*g*g*b*b*e-d*a*c*c*g*g*g*e*e*e-d*a*c*c*g*b*b*e+d*a*c*c*g*e*e*e-d*c*c*c*g*g*g*b*e*e+d*c*c*c*g*b*e*e+f*f*f*a*c*c*c-f*f*f*a*c*e*e+f*f*f*a*c+f*f*f*c*c*b*e-f*f*f*b*e*e*e+f*f*f*b*e+f*f*a*c*c*g*e-f*f*a*g*e*e*e+f*f*a*g*e+f*f*c*c*c*g*b-f*f*c*g*b*e*e+f*f*c*g*b-f*a*c*c*c*g*g+f*a*c*c*c+f*a*c*g*g*e*e-f*a*c*g*g-f*a*c*e*e+f*a*c-f*c*c*g*g*b*e+f*c*c*b*e+f*g*g*b*e*e*e-f*g*g*b*e-f*b*e*e*e+f*b*e-a*c*c*g*g*g*e+a*c*c*g*e+a*g*g*g*e*e*e-a*g*g*g*e-a*g*e*e*e+a*g*e-c*c*c*g*g*g*b+c*c*c*g*b+c*g*g*g*b*e*e-c*g*g*g*b-c*g*b*e*e+c*g*b)*(b*b-a*a-1-d*a*a*b*b)
   +(-d*f*f*a*a*c*g*b+d*f*f*a*g*b*b*e+d*f*a*a*g*g*b*e-d*f*a*c*g*g*b*b-f*f*f*a*a*a*c-f*f*f*a*a*b*e+f*f*f*a*c*b*b-f*f*f*a*c+f*f*f*b*b*b*e-f*f*f*b*e-f*f*a*a*a*g*e-f*f*a*a*c*g*b+f*f*a*g*b*b*e-f*f*a*g*e+f*f*c*g*b*b*b-f*f*c*g*b+f*a*a*a*c*g*g-f*a*a*a*c+f*a*a*g*g*b*e-f*a*a*b*e-f*a*c*g*g*b*b+f*a*c*g*g+f*a*c*b*b-f*a*c-f*g*g*b*b*b*e+f*g*g*b*e+f*b*b*b*e-f*b*e+a*a*a*g*g*g*e-a*a*a*g*e+a*a*c*g*g*g*b-a*a*c*g*b-a*g*g*g*b*b*e+a*g*g*g*e+a*g*b*b*e-a*g*e-c*g*g*g*b*b*b+c*g*g*g*b+c*g*b*b*b-c*g*b)*(e*e-c*c-1-d*c*c*e*e):=gg
 rw[r,s,t]at h;generalize (((f*b+a*g)*(1-d*f*a*g*b)*e+c*(g*b+f*a)*(1+d*f*a*g*b))*((1+d*a*c*b*e)*(1-d*a*c*b*e)+d*(a*e+c*b)*(b*e+a*c)*f*g))=A at h|-;generalize ((f*(b*e+a*c)*(1+d*a*c*b*e)+(a*e+c*b)*(1-d*a*c*b*e)*g)*((1+d*f*a*g*b)*(1-d*f*a*g*b)+d*(f*b+a*g)*(g*b+f*a)*c*e))=B at h|-;grind
theorem UG{q:Nat} [NeZero q](d f g a b c e k m o i l n p j:Fin q)
  (u:k=f*b+a*g) (h2:m=g*b+f*a) (v:o=1+d*f*a*g*b) (w:i=1-d*f*a*g*b)
  (x:l=a*e+c*b) (y:n=b*e+a*c) (z:p=1+d*a*c*b*e) (C:j=1-d*a*c*b*e)
  (r:g*g-f*f-1-d*f*f*g*g=0) (s:b*b-a*a-1-d*a*a*b*b=0) (t:e*e-c*c-1-d*c*c*e*e=0):
  (m*o*e+k*i*c)*(p*j-d*l*n*f*g)=(g*n*p+f*l*j)*(o*i-d*k*m*c*e):=by
 subst u h2 v w x y z C;have h:((g*b+f*a)*(1+d*f*a*g*b)*e+(f*b+a*g)*(1-d*f*a*g*b)*c)*((1+d*a*c*b*e)*(1-d*a*c*b*e)-d*(a*e+c*b)*(b*e+a*c)*f*g)
   - (g*(b*e+a*c)*(1+d*a*c*b*e)+f*(a*e+c*b)*(1-d*a*c*b*e))*((1+d*f*a*g*b)*(1-d*f*a*g*b)-d*(f*b+a*g)*(g*b+f*a)*c*e)
   =(d*d*f*a*a*a*a*c*b*b*b*e*e+d*d*f*a*a*a*c*c*b*b*b*b*e-d*d*a*a*a*a*c*c*g*b*b*b*e-d*d*a*a*a*c*g*b*b*b*b*e*e+d*f*a*a*a*a*c*b*e*e+d*f*a*a*a*b*b*e*e*e-d*f*a*a*a*b*b*e-d*f*a*a*c*c*c*b*b*b-d*f*a*a*c*b*b*b-d*f*a*c*c*b*b*b*b*e-d*a*a*a*a*c*c*g*b*e-d*a*a*a*c*c*c*g*b*b-d*a*a*a*c*g*b*b+d*a*a*g*b*b*b*e*e*e-d*a*a*g*b*b*b*e+d*a*c*g*b*b*b*b*e*e)*(g*g-f*f-1-d*f*f*g*g)
   +(d*d*f*f*a*a*c*c*g*b*e*e*e-d*d*f*f*a*c*c*c*g*b*b*e*e-d*d*f*a*a*c*c*c*g*g*b*e*e+d*d*f*a*c*c*g*g*b*b*e*e*e-d*f*f*f*a*a*c*b*e*e-d*f*f*f*a*c*c*b*b*e+d*f*f*f*a*c*c*e*e*e+d*f*f*f*c*c*c*b*e*e+d*f*f*a*a*c*c*g*b*e+d*f*f*a*c*c*c*g*e*e+d*f*f*a*c*g*b*b*e*e+d*f*f*c*c*g*b*e*e*e+d*f*a*a*c*g*g*b*e*e-d*f*a*a*c*b*e*e+d*f*a*c*c*g*g*b*b*e-d*f*a*c*c*g*g*e*e*e-d*f*a*c*c*b*b*e+d*f*a*c*c*e*e*e-d*f*c*c*c*g*g*b*e*e+d*f*c*c*c*b*e*e-d*a*a*c*c*g*g*g*b*e+d*a*a*c*c*g*b*e-d*a*c*c*c*g*g*g*e*e+d*a*c*c*c*g*e*e-d*a*c*g*g*g*b*b*e*e+d*a*c*g*b*b*e*e-d*c*c*g*g*g*b*e*e*e+d*c*c*g*b*e*e*e+f*f*f*a*c*c*e-f*f*f*a*e*e*e+f*f*f*a*e+f*f*f*c*c*c*b-f*f*f*c*b*e*e+f*f*f*c*b+f*f*a*c*c*c*g-f*f*a*c*g*e*e+f*f*a*c*g+f*f*c*c*g*b*e-f*f*g*b*e*e*e+f*f*g*b*e-f*a*c*c*g*g*e+f*a*c*c*e+f*a*g*g*e*e*e-f*a*g*g*e-f*a*e*e*e+f*a*e-f*c*c*c*g*g*b+f*c*c*c*b+f*c*g*g*b*e*e-f*c*g*g*b-f*c*b*e*e+f*c*b-a*c*c*c*g*g*g+a*c*c*c*g+a*c*g*g*g*e*e-a*c*g*g*g-a*c*g*e*e+a*c*g-c*c*g*g*g*b*e+c*c*g*b*e+g*g*g*b*e*e*e-g*g*g*b*e-g*b*e*e*e+g*b*e)*(b*b-a*a-1-d*a*a*b*b)
   +(-d*f*f*a*a*g*b*e+d*f*f*a*c*g*b*b+d*f*a*a*c*g*g*b-d*f*a*g*g*b*b*e-f*f*f*a*a*a*e-f*f*f*a*a*c*b+f*f*f*a*b*b*e-f*f*f*a*e+f*f*f*c*b*b*b-f*f*f*c*b-f*f*a*a*a*c*g-f*f*a*a*g*b*e+f*f*a*c*g*b*b-f*f*a*c*g+f*f*g*b*b*b*e-f*f*g*b*e+f*a*a*a*g*g*e-f*a*a*a*e+f*a*a*c*g*g*b-f*a*a*c*b-f*a*g*g*b*b*e+f*a*g*g*e+f*a*b*b*e-f*a*e-f*c*g*g*b*b*b+f*c*g*g*b+f*c*b*b*b-f*c*b+a*a*a*c*g*g*g-a*a*a*c*g+a*a*g*g*g*b*e-a*a*g*b*e-a*c*g*g*g*b*b+a*c*g*g*g+a*c*g*b*b-a*c*g-g*g*g*b*b*b*e+g*g*g*b*e+g*b*b*b*e-g*b*e)*(e*e-c*c-1-d*c*c*e*e):=gg
 rw[r,s,t]at h;generalize (((g*b+f*a)*(1+d*f*a*g*b)*e+(f*b+a*g)*(1-d*f*a*g*b)*c)*((1+d*a*c*b*e)*(1-d*a*c*b*e)-d*(a*e+c*b)*(b*e+a*c)*f*g))=A at h|-;generalize ((g*(b*e+a*c)*(1+d*a*c*b*e)+f*(a*e+c*b)*(1-d*a*c*b*e))*((1+d*f*a*g*b)*(1-d*f*a*g*b)-d*(f*b+a*g)*(g*b+f*a)*c*e))=B at h|-;grind
theorem Li{i:Nat} [NeZero i](d c e a b f g p m:Fin i)
  (l:f=c*b+a*e) (h2:g=e*b+c*a) (n:p=1+d*c*a*e*b) (o:m=1-d*c*a*e*b)
  (j:e*e-c*c-1-d*c*c*e*e=0) (k:b*b-a*a-1-d*a*a*b*b=0):
  (g*p)*(g*p)-(f*m)*(f*m)=(p*m)*(p*m)+d*(f*g)*(f*g):=by
 subst l h2 n o;have h:((e*b+c*a)*(1+d*c*a*e*b))*((e*b+c*a)*(1+d*c*a*e*b))-((c*b+a*e)*(1-d*c*a*e*b))*((c*b+a*e)*(1-d*c*a*e*b))
   - (((1+d*c*a*e*b)*(1-d*c*a*e*b))*((1+d*c*a*e*b)*(1-d*c*a*e*b))+d*((c*b+a*e)*(e*b+c*a))*((c*b+a*e)*(e*b+c*a)))
   =(d*d*d*c*c*a*a*a*a*e*e*b*b*b*b-d*d*c*c*a*a*a*a*b*b*b*b+d*d*a*a*a*a*e*e*b*b*b*b-d*d*a*a*a*a*b*b*b*b-d*c*c*a*a*a*a*b*b+d*c*c*a*a*b*b*b*b+d*a*a*a*a*e*e*b*b-2*d*a*a*a*a*b*b*b*b-d*a*a*e*e*b*b*b*b-2*d*a*a*b*b-2*a*a*a*a*b*b+a*a*a*a+2*a*a*b*b*b*b-4*a*a*b*b+b*b*b*b)*(e*e-c*c-1-d*c*c*e*e)
   +(d*c*c*c*c*a*a*b*b+2*d*c*c*a*a*b*b+d*a*a*e*e*e*e*b*b-2*d*a*a*e*e*b*b+d*a*a*b*b+2*c*c*a*a*b*b-c*c*a*a+c*c*b*b-2*a*a*e*e*b*b+a*a*e*e+2*a*a*b*b-a*a-e*e*b*b+b*b+1)*(b*b-a*a-1-d*a*a*b*b):=gg
 rw[j,k]at h;generalize ((e*b+c*a)*(1+d*c*a*e*b))*((e*b+c*a)*(1+d*c*a*e*b))-((c*b+a*e)*(1-d*c*a*e*b))*((c*b+a*e)*(1-d*c*a*e*b))=A at h|-;generalize ((1+d*c*a*e*b)*(1-d*c*a*e*b))*((1+d*c*a*e*b)*(1-d*c*a*e*b))+d*((c*b+a*e)*(e*b+c*a))*((c*b+a*e)*(e*b+c*a))=B at h|-;grind
structure Ed_Field' (pp:Nat) [NeZero pp] where
 inv:Fin pp->Fin pp
 mul_inv:∀a,a≠0->a*inv a=1
 d:Fin pp
 i:Fin pp
 ii:i*i= -1
 nonsq:∀t,t*t≠d
 two:(1:Fin pp)+1≠0
theorem pF{a:Nat} [NeZero a](S:Ed_Field' a):(1:Fin a)≠0:=by
 intro h;apply S.two
 grind
theorem jT{d:Nat} [NeZero d](S:Ed_Field' d){a b c:Fin d}(f:a≠0)(h:a*b=a*c):b=c:=by
 have e:=S.mul_inv a f;have:S.inv a*(a*b)=S.inv a*(a*c):=by rw[h]
 grind
theorem bp{c:Nat} [NeZero c](S:Ed_Field' c){a b:Fin c}(d:a≠0)(e:b≠0):a*b≠0:=by
 intro h;apply e
 apply jT S d
 grind
theorem wt{c:Nat} [NeZero c](S:Ed_Field' c){a b:Fin c}(h:a*b=0):a=0\/b=0:=by
 by_cases d:a=0
 .exact .inl d
 .right
  apply jT S d
  grind
theorem Ko{a:Nat} [NeZero a](S:Ed_Field' a):S.inv 1=1:=by
 have:=S.mul_inv 1 (pF S);grind
theorem Tc{d:Nat} [NeZero d](S:Ed_Field' d){a b c f:Fin d}(e:b≠0)(g:f≠0)(h:a*f=c*b):a*S.inv b=c*S.inv f:=by
 have i:=S.mul_inv b e;have j:=S.mul_inv f g;apply jT S (bp S e g)
 have:b*f*(a*S.inv b)=(b*S.inv b)*(a*f):=gg
 rw[this,i,h];have:b*f*(c*S.inv f)=(f*S.inv f)*(c*b):=gg
 rw[this,j]
def jd{pp:Nat} [NeZero pp](S:Ed_Field' pp)(x y:Fin pp):Prop:=y*y-x*x-1-S.d*x*x*y*y=0
theorem zO{a:Nat} [NeZero a](S:Ed_Field' a){A B:Fin a}(b:B≠0)(h:A*A=S.d*(B*B)):False:=by
 have e:=S.mul_inv B b;apply S.nonsq (A*S.inv B)
 have:A*S.inv B*(A*S.inv B)=(A*A)*(S.inv B*S.inv B):=gg
 rw[this,h];have:S.d*(B*B)*(S.inv B*S.inv B)=S.d*((B*S.inv B)*(B*S.inv B)):=gg
 rw[this,e];grind
theorem Av{g:Nat} [NeZero g](d i a b c f e:Fin g)(q:i*i= -1)(r:b*b-a*a-1-d*a*a*b*b=0)(t:f*f-c*c-1-d*c*c*f*f=0)
  (j:e=d*a*c*b*f) (h:e*e=1) (s:Fin g) (p:s*s=1):
  (i*a+s*e*b)*(i*a+s*e*b)=d*((a*b*(i*c+s*f))*(a*b*(i*c+s*f))):=by
 have k:(i*a+s*e*b)*(i*a+s*e*b)=(i*i)*(a*a)+2*i*s*e*a*b+(s*s)*(e*e)*(b*b):=gg
 have l:d*((a*b*(i*c+s*f))*(a*b*(i*c+s*f)))=d*(a*a)*(b*b)*((i*i)*(c*c)+(s*s)*(f*f))+2*i*s*a*b*(d*a*c*b*f):=gg
 rw[k,l,<-j,q,p,h];have m:f*f-c*c=1+d*c*c*f*f:=gg
 have n:d*(a*a)*(b*b)*(-1*(c*c)+1*(f*f))=d*(a*a)*(b*b)*(f*f-c*c):=gg
 rw[n,m];have o:d*(a*a)*(b*b)*(1+d*c*c*f*f)=d*(a*a)*(b*b)+(d*a*c*b*f)*(d*a*c*b*f):=gg
 rw[o,<-j,h];grind
theorem GG{e:Nat} [NeZero e](S:Ed_Field' e){c d b a:Fin e}(g:jd S c d)(h2:jd S b a)(f:(S.d*c*b*d*a)*(S.d*c*b*d*a)=1):False:=by
 have i:S.d*c*b*d*a≠0:=by
  intro h;rw[h]at f;apply pF S
  grind
 have j:c*d≠0:=by
  intro h;apply i
  have:S.d*c*b*d*a=S.d*b*a*(c*d):=gg
  rw[this,h];grind
 have n:=Av S.d S.i c d b a _ S.ii g h2 rfl f 1 gg;have o:=Av S.d S.i c d b a _ S.ii g h2 rfl f (-1) gg;by_cases k:S.i*b+1*a=0
 .by_cases l:S.i*b+ -1*a=0
  .have m:((1:Fin e)+1)*a=0:=gg
   have p:a=0:=by
    rcases wt S m with h|h
    .exact absurd h S.two
    .exact h
   apply i
   rw[p];grind
  .exact zO S (bp S j l) o
 .exact zO S (bp S j k) n
theorem nP{a:Nat} [NeZero a](S:Ed_Field' a){b d c e:Fin a}(f:jd S b d)(h2:jd S c e):1+S.d*b*c*d*e≠0:=by
 intro h;apply GG S f h2
 have:S.d*b*c*d*e= -1:=gg
 rw[this];grind
theorem iJ{a:Nat} [NeZero a](S:Ed_Field' a){b d c e:Fin a}(f:jd S b d)(h2:jd S c e):1-S.d*b*c*d*e≠0:=by
 intro h;apply GG S f h2
 have:S.d*b*c*d*e=1:=gg
 rw[this];grind
def cN{pp:Nat} [NeZero pp](S:Ed_Field' pp)(x1 y1 x2 y2:Fin pp):Fin pp:=(x1*y2+x2*y1)*S.inv (1+S.d*x1*x2*y1*y2)
def cM{pp:Nat} [NeZero pp](S:Ed_Field' pp)(x1 y1 x2 y2:Fin pp):Fin pp:=(y1*y2+x1*x2)*S.inv (1-S.d*x1*x2*y1*y2)
theorem pT{f:Nat} [NeZero f](S:Ed_Field' f){a c b d:Fin f}(g:jd S a c)(h2:jd S b d):cN S a c b d*(1+S.d*a*b*c*d)=a*d+b*c:=by
 have e:=S.mul_inv _ (nP S g h2);unfold cN;generalize 1+S.d*a*b*c*d=p at e|-;grind
theorem me{f:Nat} [NeZero f](S:Ed_Field' f){a c b d:Fin f}(g:jd S a c)(h2:jd S b d):cM S a c b d*(1-S.d*a*b*c*d)=c*d+a*b:=by
 have e:=S.mul_inv _ (iJ S g h2);unfold cM;generalize 1-S.d*a*b*c*d=p at e|-;grind
theorem ye{i:Nat} [NeZero i](S:Ed_Field' i){a c b d:Fin i}(f:jd S a c)(h2:jd S b d):jd S (cN S a c b d) (cM S a c b d):=by
 have j:=pT S f h2;have k:=me S f h2;have h:=nP S f h2;have g:=iJ S f h2;have e:=Li S.d a c b d _ _ _ _ rfl rfl rfl rfl f h2;rw[<-j,<-k]at e;generalize cN S a c b d=X at e|-;generalize cM S a c b d=Y at e|-;generalize 1+S.d*a*b*c*d=p at e h;generalize 1-S.d*a*b*c*d=m at e g;unfold jd;have l:=bp S (bp S h g) (bp S h g);apply jT S l
 have:p*m*(p*m)*(Y*Y-X*X-1-S.d*X*X*Y*Y)=((Y*m*p)*(Y*m*p)-(X*p*m)*(X*p*m))-((p*m)*(p*m)+S.d*((X*p)*(Y*m))*((X*p)*(Y*m))):=gg
 rw[this,e];grind
theorem Pg{e:Nat} [NeZero e](S:Ed_Field' e)(a c b d:Fin e):cN S a c b d=cN S b d a c:=by
 unfold cN;have f:a*d+b*c=b*c+a*d:=gg
 have g:1+S.d*a*b*c*d=1+S.d*b*a*d*c:=gg
 rw[f,g]
theorem Pf{e:Nat} [NeZero e](S:Ed_Field' e)(a c b d:Fin e):cM S a c b d=cM S b d a c:=by
 unfold cM;have f:c*d+a*b=d*c+b*a:=gg
 have g:1-S.d*a*b*c*d=1-S.d*b*a*d*c:=gg
 rw[f,g]
theorem MR{q:Nat} [NeZero q](S:Ed_Field' q)(i k j l c a d b e g f h m o n p:Fin q)(F:c≠0)(C:a≠0)(G:d≠0)(D:b≠0)
  (r:i*c=m) (t:k*a=o) (u:j*d=n) (v:l*b=p) (s:Fin q)
  (L R:Fin q) (A:L*(c*a)=m*a*h+f*o*c) (B:R*(d*b)=e*p*d+n*b*g)
  (H:(m*a*h+f*o*c)*(d*b+s*S.d*n*p*e*g)=(e*p*d+n*b*g)*(c*a+s*S.d*m*o*f*h)):
  L*(1+s*S.d*e*j*g*l)=R*(1+s*S.d*i*f*k*h):=by
 have E:=bp S (bp S F C) (bp S G D);apply jT S E
 have w:(1+s*S.d*e*j*g*l)*(d*b)=d*b+s*S.d*n*p*e*g:=by rw[<-u,<-v];grind
 have x:(1+s*S.d*i*f*k*h)*(c*a)=c*a+s*S.d*m*o*f*h:=by rw[<-r,<-t];grind
 have y:c*a*(d*b)*(L*(1+s*S.d*e*j*g*l))=(L*(c*a))*((1+s*S.d*e*j*g*l)*(d*b)):=gg
 have z:c*a*(d*b)*(R*(1+s*S.d*i*f*k*h))=(R*(d*b))*((1+s*S.d*i*f*k*h)*(c*a)):=gg
 rw[y,z,w,x,A,B,H]
theorem Lj{q:Nat} [NeZero q](S:Ed_Field' q)(i k j l c a d b e g f h m o n p:Fin q)(E:c≠0)(B:a≠0)(F:d≠0)(C:b≠0)
  (r:i*c=m) (s:k*a=o) (t:j*d=n) (u:l*b=p)
  (L R:Fin q) (z:L*(c*a)=o*c*h+m*a*f) (A:R*(d*b)=g*p*d+e*n*b)
  (G:(o*c*h+m*a*f)*(d*b-S.d*n*p*e*g)=(g*p*d+e*n*b)*(c*a-S.d*m*o*f*h)):
  L*(1-S.d*e*j*g*l)=R*(1-S.d*i*f*k*h):=by
 have D:=bp S (bp S E B) (bp S F C);apply jT S D
 have v:(1-S.d*e*j*g*l)*(d*b)=d*b-S.d*n*p*e*g:=by rw[<-t,<-u];grind
 have w:(1-S.d*i*f*k*h)*(c*a)=c*a-S.d*m*o*f*h:=by rw[<-r,<-s];grind
 have x:c*a*(d*b)*(L*(1-S.d*e*j*g*l))=(L*(c*a))*((1-S.d*e*j*g*l)*(d*b)):=gg
 have y:c*a*(d*b)*(R*(1-S.d*i*f*k*h))=(R*(d*b))*((1-S.d*i*f*k*h)*(c*a)):=gg
 rw[x,y,v,w,z,A,G]
theorem MT{i:Nat} [NeZero i](S:Ed_Field' i){c e a b d f:Fin i}(g:jd S c e)(h2:jd S a b)(h:jd S d f):
  cN S (cN S c e a b) (cM S c e a b) d f=cN S c e (cN S a b d f) (cM S a b d f):=by
 have u:=ye S g h2;have v:=ye S h2 h;have n:=nP S u h;have o:=nP S g v;have p:=pT S g h2;have r:=me S g h2;have q:=pT S h2 h;have s:=me S h2 h;have y:=nP S g h2;have w:=iJ S g h2;have z:=nP S h2 h;have x:=iJ S h2 h;have A:=UH S.d c e a b d f _ _ _ _ _ _ _ _ rfl rfl rfl rfl rfl rfl rfl rfl g h2 h;unfold cN at n o|-;refine Tc S n o ?_;change (cN S c e a b*f+d*cM S c e a b)*(1+S.d*c*cN S a b d f*e*cM S a b d f)=(c*cM S a b d f+cN S a b d f*e)*(1+S.d*cN S c e a b*d*cM S c e a b*f);generalize cN S c e a b=j at*;generalize cM S c e a b=l at*;generalize cN S a b d f=k at*;generalize cM S a b d f=m at*;generalize 1+S.d*c*a*e*b=D at*;generalize 1-S.d*c*a*e*b=B at*;generalize 1+S.d*a*d*b*f=E at*;generalize 1-S.d*a*d*b*f=C at*;have t:(1:Fin i)*S.d=S.d:=gg
 have:=MR S j l k m D B E C c e d f _ _ _ _ y w z x p r q s 1 (j*f+d*l) (c*m+k*e)
  (by rw[<-p,<-r];grind) (by rw[<-q,<-s];grind) (by rw[t];exact A)
 rw[t]at this;exact this
theorem MS{i:Nat} [NeZero i](S:Ed_Field' i){c e a b d f:Fin i}(g:jd S c e)(h2:jd S a b)(h:jd S d f):
  cM S (cN S c e a b) (cM S c e a b) d f=cM S c e (cN S a b d f) (cM S a b d f):=by
 have t:=ye S g h2;have u:=ye S h2 h;have n:=iJ S t h;have o:=iJ S g u;have p:=pT S g h2;have r:=me S g h2;have q:=pT S h2 h;have s:=me S h2 h;have x:=nP S g h2;have v:=iJ S g h2;have y:=nP S h2 h;have w:=iJ S h2 h;have z:=UG S.d c e a b d f _ _ _ _ _ _ _ _ rfl rfl rfl rfl rfl rfl rfl rfl g h2 h;unfold cM at n o|-;refine Tc S n o ?_;change (cM S c e a b*f+cN S c e a b*d)*(1-S.d*c*cN S a b d f*e*cM S a b d f)=(e*cM S a b d f+c*cN S a b d f)*(1-S.d*cN S c e a b*d*cM S c e a b*f);generalize cN S c e a b=j at*;generalize cM S c e a b=l at*;generalize cN S a b d f=k at*;generalize cM S a b d f=m at*;generalize 1+S.d*c*a*e*b=C at*;generalize 1-S.d*c*a*e*b=A at*;generalize 1+S.d*a*d*b*f=D at*;generalize 1-S.d*a*d*b*f=B at*;exact Lj S j l k m C A D B c e d f _ _ _ _ x v y w p r q s (l*f+j*d) (e*m+c*k)
  (by rw[<-p,<-r];grind) (by rw[<-q,<-s];grind) z
structure Ed_Pt {pp:Nat} [NeZero pp] (S:Ed_Field' pp) where
 x:Fin pp
 y:Fin pp
 on:jd S x y
theorem Ed_Pt.ext'{e:Nat} [NeZero e](S:Ed_Field' e){a b:Ed_Pt S}(c:a.x=b.x)(d:a.y=b.y):a=b:=by
 obtain⟨g,h,f⟩:=a;obtain⟨k,i,j⟩:=b;simp only at c d;subst c d;rfl
def dO{pp:Nat} [NeZero pp](S:Ed_Field' pp)(a b:Ed_Pt S):Ed_Pt S:=⟨cN S a.x a.y b.x b.y,cM S a.x a.y b.x b.y,ye S a.on b.on⟩
def nC{pp:Nat} [NeZero pp](S:Ed_Field' pp):Ed_Pt S:=⟨0,1,by unfold jd;grind⟩
def jE{pp:Nat} [NeZero pp](S:Ed_Field' pp)(a:Ed_Pt S):Ed_Pt S:=⟨-a.x,a.y,by have:=a.on;unfold jd at*;grind⟩
theorem zP{d:Nat} [NeZero d](S:Ed_Field' d)(a b c:Ed_Pt S):dO S (dO S a b) c=dO S a (dO S b c):=Ed_Pt.ext' S (MT S a.on b.on c.on) (MS S a.on b.on c.on)
theorem GH{c:Nat} [NeZero c](S:Ed_Field' c)(a b:Ed_Pt S):dO S a b=dO S b a:=Ed_Pt.ext' S (Pg S _ _ _ _) (Pf S _ _ _ _)
theorem xN{c:Nat} [NeZero c](S:Ed_Field' c)(a:Ed_Pt S):dO S a (nC S)=a:=by
 refine Ed_Pt.ext' S ?_ ?_
 .show cN S a.x a.y 0 1=a.x
  unfold cN;have b:1+S.d*a.x*0*a.y*1=1:=gg
  rw[b,Ko S];grind
 .show cM S a.x a.y 0 1=a.y
  unfold cM;have b:1-S.d*a.x*0*a.y*1=1:=gg
  rw[b,Ko S];grind
theorem A9{b:Nat} [NeZero b](S:Ed_Field' b)(a:Ed_Pt S):dO S (nC S) a=a:=by rw[GH,xN]
theorem Kn{d:Nat} [NeZero d](S:Ed_Field' d)(a b:Ed_Pt S):jE S (dO S a b)=dO S (jE S a) (jE S b):=by
 refine Ed_Pt.ext' S ?_ ?_
 .show -cN S a.x a.y b.x b.y=cN S (-a.x) a.y (-b.x) b.y
  unfold cN;have c:1+S.d* -a.x* -b.x*a.y*b.y=1+S.d*a.x*b.x*a.y*b.y:=gg
  rw[c];grind
 .show cM S a.x a.y b.x b.y=cM S (-a.x) a.y (-b.x) b.y
  unfold cM;have c:1-S.d* -a.x* -b.x*a.y*b.y=1-S.d*a.x*b.x*a.y*b.y:=gg
  have e:a.y*b.y+ -a.x* -b.x=a.y*b.y+a.x*b.x:=gg
  rw[c,e]
def cm{pp:Nat} [NeZero pp](S:Ed_Field' pp):Nat->Ed_Pt S->Ed_Pt S
 |0,_=>nC S
 |n+1,a=>dO S (cm S n a) a
theorem ws{b:Nat} [NeZero b](S:Ed_Field' b)(m n:Nat)(a:Ed_Pt S):cm S (m+n) a=dO S (cm S m a) (cm S n a):=by
 induction n with
 |zero=>exact(xN S _).symm
 |succ n c=>
  show dO S (cm S (m+n) a) a=_
  rw[c,zP];rfl
theorem UE{b:Nat} [NeZero b](S:Ed_Field' b)(m n:Nat)(a:Ed_Pt S):cm S (m*n) a=cm S m (cm S n a):=by
 induction m with
 |zero=>rw[Nat.zero_mul];rfl
 |succ m c=>
  rw[Nat.succ_mul,ws,c];rfl
theorem UD{b:Nat} [NeZero b](S:Ed_Field' b)(n:Nat)(a:Ed_Pt S):cm S n (jE S a)=jE S (cm S n a):=by
 induction n with
 |zero=>
  refine Ed_Pt.ext' S ?_ rfl;show(0:Fin b)= -0
  grind
 |succ n c=>
  show dO S (cm S n (jE S a)) (jE S a)=jE S (dO S (cm S n a) a)
  rw[c,Kn]
theorem R8{a:Nat} [NeZero a](S:Ed_Field' a)(n:Nat):cm S n (nC S)=nC S:=by
 induction n with
 |zero=>rfl
 |succ n b=>
  show dO S (cm S n (nC S)) (nC S)=_
  rw[b,xN]
theorem UF{b:Nat} [NeZero b](S:Ed_Field' b){q:Nat}{a:Ed_Pt S}(h:cm S q a=nC S)(n:Nat):cm S (n%q) a=cm S n a:=by
 conv=>rhs;rw[<-Qg n q,ws,Qe,UE,h,R8,A9]
def Ed_Rep{pp:Nat} [NeZero pp](S:Ed_Field' pp)(X Y Z:Fin pp)(p:Ed_Pt S):Prop:=Z≠0/\X=p.x*Z/\Y=p.y*Z
theorem Ed_Rep.add{k:Nat} [NeZero k](S:Ed_Field' k){e g c f h d:Fin k}{p q:Ed_Pt S}(u:Ed_Rep S e g c p)(h2:Ed_Rep S f h d q)(z l change b a:Fin k)
  (i:z=c*d) (r:l=z*z) (v:change=S.d*(e*f)*(g*h)) (x:b=l+change) (w:a=l-change):
  Ed_Rep S (z*(e*h+f*g)*a) (z*(g*h+e*f)*b) (b*a) (dO S p q):=by
 obtain⟨B,rfl,rfl⟩:=u;obtain⟨C,rfl,rfl⟩:=h2;have y:=nP S p.on q.on;have A:=iJ S p.on q.on;have s:=pT S p.on q.on;have t:=me S p.on q.on;have j:z≠0:=by rw[i];exact bp S B C
 have m:change=(S.d*p.x*q.x*p.y*q.y)*(z*z):=by rw[v,i];grind
 have n:b=(1+S.d*p.x*q.x*p.y*q.y)*(z*z):=by rw[x,r,m];grind
 have o:a=(1-S.d*p.x*q.x*p.y*q.y)*(z*z):=by rw[w,r,m];grind
 refine⟨?_,?_,?_⟩
 .rw[n,o];exact bp S (bp S y (bp S j j)) (bp S A (bp S j j))
 .show z*(p.x*c*(q.y*d)+q.x*d*(p.y*c))*a=cN S p.x p.y q.x q.y*(b*a)
  rw[n];have:cN S p.x p.y q.x q.y*((1+S.d*p.x*q.x*p.y*q.y)*(z*z)*a)=(cN S p.x p.y q.x q.y*(1+S.d*p.x*q.x*p.y*q.y))*(z*z)*a:=gg
  rw[this,s,i];grind
 .show z*(p.y*c*(q.y*d)+p.x*c*(q.x*d))*b=cM S p.x p.y q.x q.y*(b*a)
  rw[o];have:cM S p.x p.y q.x q.y*(b*((1-S.d*p.x*q.x*p.y*q.y)*(z*z)))=(cM S p.x p.y q.x q.y*(1-S.d*p.x*q.x*p.y*q.y))*(z*z)*b:=gg
  rw[this,t,i];grind
theorem Ed_Rep.zero{a:Nat} [NeZero a](S:Ed_Field' a):Ed_Rep S 0 1 1 (nC S):=by
 refine⟨pF S,?_,?_⟩
 .show(0:Fin a)=0*1
  grind
 .show(1:Fin a)=1*1
  grind
theorem Ed_Rep.neg{a:Nat} [NeZero a](S:Ed_Field' a){X Y Z:Fin a}{p:Ed_Pt S}(h:Ed_Rep S X Y Z p):Ed_Rep S (-X) Y Z (jE S p):=by
 obtain⟨n,rfl,rfl⟩:=h;refine⟨n,?_,rfl⟩;show -(p.x*Z)= -p.x*Z
 grind
theorem Ed_Rep.of{a:Nat} [NeZero a](S:Ed_Field' a)(p:Ed_Pt S):Ed_Rep S p.x p.y 1 p:=by
 refine⟨pF S,?_,?_⟩<;>grind
theorem Ed_Rep.x{a:Nat} [NeZero a](S:Ed_Field' a){X Y Z:Fin a}{p:Ed_Pt S}(h:Ed_Rep S X Y Z p):X*S.inv Z=p.x:=by
 obtain⟨n,rfl,rfl⟩:=h;have:=S.mul_inv Z n;grind
theorem Ed_Rep.y{a:Nat} [NeZero a](S:Ed_Field' a){X Y Z:Fin a}{p:Ed_Pt S}(h:Ed_Rep S X Y Z p):Y*S.inv Z=p.y:=by
 obtain⟨n,rfl,rfl⟩:=h;have:=S.mul_inv Z n;grind
def Ed_Rep4{pp:Nat} [NeZero pp](S:Ed_Field' pp)(X Y Z T:Fin pp)(p:Ed_Pt S):Prop:=Ed_Rep S X Y Z p/\T=p.x*p.y*Z
theorem Ed_Rep4.add{k:Nat} [NeZero k](S:Ed_Field' k){l n i r m o j s:Fin k}{p q:Ed_Pt S}(H:Ed_Rep4 S l n i r p)(h2:Ed_Rep4 S m o j s q)(a b c d e f g h C:Fin k)
  (ht:C=S.d+S.d) (v:a=(n-l)*(o-m)) (w:b=(n+l)*(o+m)) (x:c=r*C*s) (y:d=i*j+i*j) (I:e=b-a) (J:f=d-c) (K:g=d+c) (L:h=b+a):
  Ed_Rep4 S (e*f) (g*h) (f*g) (e*h) (dO S p q):=by
 obtain⟨⟨O,rfl,rfl⟩,rfl⟩:=H;obtain⟨⟨P,rfl,rfl⟩,rfl⟩:=h2;have M:=nP S p.on q.on;have N:=iJ S p.on q.on;have F:=pT S p.on q.on;have G:=me S p.on q.on;have T:=bp S O P;have D:e=(1+1)*(i*j)*(p.x*q.y+q.x*p.y):=by rw[I,w,v];grind
 have E:h=(1+1)*(i*j)*(p.y*q.y+p.x*q.x):=by rw[L,w,v];grind
 have t:f=(1+1)*(i*j)*(1-S.d*p.x*q.x*p.y*q.y):=by rw[J,y,x,ht];grind
 have u:g=(1+1)*(i*j)*(1+S.d*p.x*q.x*p.y*q.y):=by rw[K,y,x,ht];grind
 have B:=bp S S.two T;have Q:f≠0:=by rw[t];exact bp S B N
 have R:g≠0:=by rw[u];exact bp S B M
 have z:cN S p.x p.y q.x q.y*g=e:=by
  rw[u,D,<-F];grind
 have A:cM S p.x p.y q.x q.y*f=h:=by
  rw[t,E,<-G];grind
 refine⟨⟨bp S Q R,?_,?_⟩,?_⟩
 .show e*f=cN S p.x p.y q.x q.y*(f*g)
  rw[<-z];grind
 .show g*h=cM S p.x p.y q.x q.y*(f*g)
  rw[<-A];grind
 .show e*h=cN S p.x p.y q.x q.y*cM S p.x p.y q.x q.y*(f*g)
  rw[<-z,<-A];grind
theorem Ed_Rep4.zero{a:Nat} [NeZero a](S:Ed_Field' a):Ed_Rep4 S 0 1 1 0 (nC S):=by
 refine⟨Ed_Rep.zero S,?_⟩;show(0:Fin a)=0*1*1
 grind
theorem tj{b:Nat} [NeZero b](S:Ed_Field' b)(n:Nat)(a:Ed_Pt S):dO S (cm S n a) (cm S n a)=cm S (2*n) a:=by
 rw[Nat.two_mul,ws]
theorem Ba{b:Nat} [NeZero b](S:Ed_Field' b)(n:Nat)(a:Ed_Pt S):dO S (cm S n a) a=cm S (n+1) a:=rfl
theorem Hk:0<bW:=by unfold bW;omega
def Kd:Nat:=57896044618658097711785492504343953926634992332820282019728792003956564819948
abbrev cC:Type:=Fin (Kd+1)
def ak(n:Nat):cC:=Fin.ofNat (Kd+1) n
def cI(a:cC):Nat:=Fin.val (n:=Kd+1) a
theorem EJ(a:cC):cI a<bW:=Fin.isLt (n:=Kd+1) a
theorem tD(n:Nat):cI (ak n)=n%bW:=rfl
theorem tF(a:cC):ak (cI a)=a:=Fin.ext (Qk (EJ a))
theorem tE{a b:cC}(h:cI a=cI b):a=b:=Fin.ext h
theorem gQ{a b:Nat}:ak a=ak b↔a%bW=b%bW:=
 ⟨λh=>by rw[<-tD,<-tD,h],λh=>tE (by rw[tD,tD,h])⟩
theorem jb(a b:Nat):ak (a+b)=ak a+ak b:=by
 apply tE
 show(a+b)%bW=(a%bW+b%bW)%bW
 rw[<-Nat.add_mod]
theorem jC(a b:Nat):ak (a*b)=ak a*ak b:=by
 apply tE
 show(a*b)%bW=(a%bW*(b%bW))%bW
 rw[<-Qj]
theorem kH:ak 0=0:=rfl
theorem mw:ak 1=1:=rfl
theorem rm(n:Nat):ak (n%bW)=ak n:=by rw[gQ,Qy]
theorem yQ{a b c:Nat}(h:(c+b)%bW=a%bW):ak c=ak a-ak b:=by
 have:ak c+ak b=ak a:=by rw[<-jb,gQ,h]
 rw[<-this];generalize ak c=x;generalize ak b=y;grind
theorem Uk{a:cC}(h:a≠0):cI a%bW≠0:=by
 intro e;apply h
 rw[<-tF a,<-kH,gQ,e,Qx]
def dD(a:cC):Nat->cC
 |0=>1
 |n+1=>dD a n*a
theorem tG(a:Nat):∀n:Nat,ak (a^n)=dD (ak a) n
 |0=>rfl
 |n+1=>by rw[Qf,jC,tG a n];rfl
theorem mQ(a:cC)(m:Nat):∀n:Nat,dD a (m+n)=dD a m*dD a n
 |0=>by
  show dD a m=dD a m*1
  generalize dD a m=x;grind
 |n+1=>by
  show dD a (m+n)*a=dD a m*(dD a n*a)
  rw[mQ a m n];generalize dD a m=x;generalize dD a n=y;grind
theorem xa(a b:cC):∀n:Nat,dD (a*b) n=dD a n*dD b n
 |0=>by
  show(1:cC)=1*1
  grind
 |n+1=>by
  show dD (a*b) n*(a*b)=(dD a n*a)*(dD b n*b)
  rw[xa a b n];generalize dD a n=x;generalize dD b n=y;grind
theorem EK{a:cC}(h:a≠0)(n:Nat)(c:n+1=bW):dD a n=1:=by
 have e:=Mf (cI a) (Uk h);have b:bW-1=n:=oo
 rw[b]at e;rw[<-tF a,<-tG,<-mw,gQ,e];rfl
def oT(a:cC):cC:=dD a 57896044618658097711785492504343953926634992332820282019728792003956564819947
theorem tH(a:cC)(h:a≠0):a*oT a=1:=by
 have e:=EK h 57896044618658097711785492504343953926634992332820282019728792003956564819948 (by unfold bW;omega);have b:dD a 57896044618658097711785492504343953926634992332820282019728792003956564819948=dD a (57896044618658097711785492504343953926634992332820282019728792003956564819947+1):=by congr 1
 rw[b,mQ]at e;unfold oT;have c:dD a 1=a:=by
  show(1:cC)*a=a
  grind
 rw[c]at e;generalize dD a 57896044618658097711785492504343953926634992332820282019728792003956564819947=x at e|-;rw[<-e];grind
theorem Uj(n e:Nat)(a:e+2=bW):ak (n^e)=oT (ak n):=by
 rw[tG];unfold oT;have:e=57896044618658097711785492504343953926634992332820282019728792003956564819947:=by unfold bW at a;omega
 rw[this]
def kV:Nat:=37095705934669439343138083508754565189542113879843219016388785533085940283555
def vV:Nat:=19681161376707505956807079304988542015446066515923890162744021073123829784752
theorem WA:(1:cC)+1≠0:=by
 intro h;have e:ak 2=ak 0:=h;rw[gQ]at e;exact absurd e dk
theorem Ul:ak vV*ak vV= -1:=by
 have e:ak (vV*vV+1)=ak 0:=by rw[gQ];decide+kernel
 rw[jb,jC,mw,kH]at e;generalize ak vV=x at e|-;grind
theorem aaM:xF bW 256 kV 28948022309329048855892746252171976963317496166410141009864396001978282409974≠1:=dk
theorem OY(t:cC):t*t≠ak kV:=by
 intro h;have ht:t≠0:=by
  intro e;rw[e]at h;have:ak kV=ak 0:=by rw[<-h,kH];grind
  rw[gQ]at this;exact absurd this dk
 have e:=EK ht 57896044618658097711785492504343953926634992332820282019728792003956564819948 (by unfold bW;omega);have a:dD t 57896044618658097711785492504343953926634992332820282019728792003956564819948=dD t (28948022309329048855892746252171976963317496166410141009864396001978282409974+28948022309329048855892746252171976963317496166410141009864396001978282409974):=by congr 1
 rw[a,mQ,<-xa,h,<-tG,<-mw,gQ]at e;apply aaM
 rw[zz bW 256 kV _ oo,e];rfl
def Gf_S:Ed_Field' (Kd+1) where
 inv:=oT
 mul_inv:=tH
 d:=ak kV
 i:=ak vV
 ii:=Ul
 nonsq:=OY
 two:=WA
def pX:Nat:=15112221349535400772501151409588531511454012693041857206046113283949847762202
def pC:Nat:=46316835694926478169428394003475163141307993866256225615783033603165251855960
theorem aaN:jd Gf_S (ak pX) (ak pC):=by
 show ak pC*ak pC-ak pX*ak pX-1-ak kV*ak pX*ak pX*ak pC*ak pC=0
 have e:ak (pC*pC)=ak (pX*pX+1+kV*pX*pX*pC*pC):=by rw[gQ];decide+kernel
 simp only[jb,jC,mw]at e;generalize ak pC=y at e|-;generalize ak pX=x at e|-;generalize ak kV=d at e|-;grind
abbrev jc:=Ed_Pt Gf_S
def Gf_B:jc:=⟨ak pX,ak pC,aaN⟩
def wZ(a b:Nat×Nat×Nat):Nat×Nat×Nat:=
 let z:=a.2.2*b.2.2%bW
 let w:=z*z%bW
 let xx:=a.1*b.1%bW
 let yy:=a.2.1*b.2.1%bW
 let c:=kV*xx%bW*yy%bW
 let more:=w+c
 let less:=w+(bW-c)
 (z*(a.1*b.2.1+b.1*a.2.1)%bW*less%bW,z*(yy+xx)%bW*more%bW,more*less%bW)
def xc(a:Nat×Nat×Nat)(p:jc):Prop:=Ed_Rep Gf_S (ak a.1) (ak a.2.1) (ak a.2.2) p
theorem Gq{a b:Nat×Nat×Nat}{p q:jc}(f:xc a p)(h2:xc b q):xc (wZ a b) (dO Gf_S p q):=by
 obtain⟨j,l,n⟩:=a;obtain⟨k,m,o⟩:=b;have h:=Ed_Rep.add Gf_S f h2 _ _ _ _ _ rfl rfl rfl rfl rfl;have d:Gf_S.d=ak kV:=rfl;rw[d]at h;simp only at h;have i:∀w c:Nat,ak (w+(bW-c%bW))=ak w-ak c:=by
  intro w c;apply yQ
  have g:=Qo c Hk;have e:w+(bW-c%bW)+c=w+(bW-c%bW+c%bW)+bW*(c/bW):=by
   have:=Qg c bW;omega
  rw[e,Qp (Nat.le_of_lt g),Nat.add_mul_mod_self_left,Nat.add_mod_right]
 show Ed_Rep Gf_S (ak _) (ak _) (ak _) _
 simp only[wZ,rm,jC,jb,i];exact h
def qO(a:Nat×Nat×Nat):Nat->Nat->Nat×Nat×Nat
 |0,_=>(0,1,1)
 |f+1,n=>let h:=qO a f (n/2);let s:=wZ h h;if n%2=1 then wZ s a else s
theorem DC{a:Nat×Nat×Nat}{p:jc}(h:xc a p):∀f n:Nat,n<2^f->xc (qO a f n) (cm Gf_S n p)
 |0,n,c=>by
  have:n=0:=by simpa using c
  subst this;exact Ed_Rep.zero Gf_S
 |f+1,n,c=>by
  have d:=DC h f (n/2) (by rw[Qf]at c;omega);have h2:=Gq d d;rw[tj]at h2;show xc (if n%2=1 then wZ (wZ (qO a f (n/2)) (qO a f (n/2))) a else wZ (qO a f (n/2)) (qO a f (n/2))) _
  split
  .rename_i g
   have b:=Gq h2 h;rw[Ba]at b;have e:2*(n/2)+1=n:=oo
   rw[e]at b;exact b
  .have e:2*(n/2)=n:=oo
   rw[e]at h2;exact h2
def CW:Nat:=7237005577332262213973186563042994240857116359379907606001950938285454250989
theorem Um:(let r:=qO (pX,pC,1) 253 CW;decide (r.1%bW=0)&&decide (r.2.1%bW=r.2.2%bW))=true:=dk
theorem acN:cm Gf_S CW Gf_B=nC Gf_S:=by
 have g:xc (pX,pC,1) Gf_B:=Ed_Rep.of Gf_S Gf_B;have h:=DC g 253 CW dk;have e:=Um;generalize qO (pX,pC,1) 253 CW=r at h e;obtain⟨x,y,z⟩:=r;simp only[QA,decide_eq_true_eq]at e;obtain⟨d,f⟩:=e;obtain⟨b,c,a⟩:=h;have b:=b;have c:=c;have a:=a;have i:ak x=0:=by rw[<-kH,gQ,d,Qx]
 have j:=gQ.2 f;refine Ed_Pt.ext' Gf_S ?_ ?_
 .show(cm Gf_S CW Gf_B).x=0
  rw[i]at c;rcases wt Gf_S c.symm with h|h
  .exact h
  .exact absurd h b
 .show(cm Gf_S CW Gf_B).y=1
  rw[j]at a;generalize (cm Gf_S CW Gf_B).y=t at a|-;generalize ak z=u at a b;have:u*t=u*1:=by
   have e:u*1=u:=gg
   rw[e];conv=>rhs;rw[a]
   grind
  exact jT Gf_S b this
end Go.Proofs.YtclpbaokadfhhaaGreatDoor
