import Derived.Test.YtclpbaokadfhhaaGreatDoorZa
set_option maxRecDepth 100000
set_option maxHeartbeats 1000000
open List renaming getD_cons_zero->Qa,getD_cons_succ->Qc
open Nat renaming add_mul_mod_self_left->Qd,pow_add->Qe,mod_eq_of_lt->Qf,pow_succ->Qg,shiftLeft_eq->Qi,pow_mul->Qj,pow_mod->Qk,mul_mod->Qm
open BitVec renaming toNat_ofNat->Qn,ofNat->Qo,toNat_add->Qp
namespace Go.Proofs.YtclpbaokadfhhaaGreatDoor
abbrev av:=BitVec 64
def qG:Nat:=57896044618658097711785492504343953926634992332820282019728792003956564819949
def Ff_M51:av:=2251799813685247
def Ff_Cg(a b:Nat):Prop:=a%qG=b%qG
theorem Ff_Cg.refl(a:Nat):Ff_Cg a a:=rfl
theorem Ff_Cg.trans{a b c:Nat}(h:Ff_Cg a b)(d:Ff_Cg b c):Ff_Cg a c:=Eq.trans h d
theorem Ff_Cg.of_eq{a b:Nat}(h:a=b):Ff_Cg a b:=by rw[h];rfl
theorem Ff_Cg.mul{a b c d:Nat}(h:Ff_Cg a b)(e:Ff_Cg c d):Ff_Cg (a*c) (b*d):=by
 unfold Ff_Cg at*;rw[Qm,h,e,<-Qm]
theorem Ff_Cg.pow{a b:Nat}(h:Ff_Cg a b)(n:Nat):Ff_Cg (a^n) (b^n):=by
 unfold Ff_Cg at*;rw[Qk,h,<-Qk]
theorem bH(l:List av)(h:l.length=5):∃a b c d e,l=[a,b,c,d,e]:=by
 match l,h with
 | [a,b,c,d,e],_=>exact⟨a,b,c,d,e,rfl⟩
def cy(a:List av)(o:av):Nat->List av×av
 |0=>(a,o)
 |k+1=>(((cy a o k).1.set k ((cy a o k).1.getD k 0+(cy a o k).2)).set k (((cy a o k).1.getD k 0+(cy a o k).2)&&&Ff_M51),((cy a o k).1.getD k 0+(cy a o k).2)>>>51)
theorem mz(a:List av)(o:av)(k:Nat):(cy a o k).1.length=a.length:=by
 induction k with
 |zero=>rfl
 |succ k b=>simp[cy,b]
def bE(a:List av)(o:av):List av×av:=cy a o 5
def qR(l:List av)(o:av):List av:=
 ((l.set 0 (l.getD 0 0+19*o)).set 1 (l.getD 1 0+(l.getD 0 0+19*o)>>>51)).set 0 ((l.getD 0 0+19*o)&&&Ff_M51)
def bD(a:List av):List av:=qR (bE a 0).1 (bE a 0).2
theorem jr(a:List av):(bD a).length=a.length:=by simp[bD,bE,qR,mz]
def aW(a:List av):List av:=(bE (bD a) (19*(bE (bD a) 19).2)).1
theorem oV(a:List av):(aW a).length=a.length:=by simp[aW,bE,mz,jr]
def eL(a b:List av):Nat->List av
 |0=>a
 |k+1=>(eL a b k).set k ((eL a b k).getD k 0+b.getD k 0)
theorem uE(a b:List av)(k:Nat):(eL a b k).length=a.length:=by
 induction k with
 |zero=>rfl
 |succ k c=>simp[eL,c]
def aI(a b:List av):List av:=bD (eL a b 5)
theorem lz(a b:List av):(aI a b).length=a.length:=by simp[aI,jr,uE]
def Ff_four:List av:=[9007199254740916,9007199254740988,9007199254740988,9007199254740988,9007199254740988]
def dN(a b:List av):Nat->List av
 |0=>a
 |k+1=>(dN a b k).set k ((dN a b k).getD k 0+(Ff_four.getD k 0-b.getD k 0))
theorem tO(a b:List av)(k:Nat):(dN a b k).length=a.length:=by
 induction k with
 |zero=>rfl
 |succ k c=>simp[dN,c]
def aL(a b:List av):List av:=bD (dN a b 5)
theorem my(a b:List av):(aL a b).length=a.length:=by simp[aL,jr,tO]
def bC(m:av)(a b:List av):Nat->List av×List av
 |0=>(a,b)
 |k+1=>((bC m a b k).1.set k ((bC m a b k).1.getD k 0^^^(m&&&((bC m a b k).1.getD k 0^^^(bC m a b k).2.getD k 0))),(bC m a b k).2.set k ((bC m a b k).2.getD k 0^^^(m&&&((bC m a b k).1.getD k 0^^^(bC m a b k).2.getD k 0))))
theorem dg(m:av)(a b:List av)(k:Nat):(bC m a b k).1.length=a.length/\(bC m a b k).2.length=b.length:=by
 induction k with
 |zero=>exact⟨rfl,rfl⟩
 |succ k c=>simp[bC,c.1,c.2]
def aY(bit:av)(a b:List av):List av×List av:=bC (-bit) a b 5
def bo(l:List av):Nat:=(l.getD 0 0).toNat+2251799813685248*(l.getD 1 0).toNat+5070602400912917605986812821504*(l.getD 2 0).toNat+11417981541647679048466287755595961091061972992*(l.getD 3 0).toNat+25711008708143844408671393477458601640355247900524685364822016*(l.getD 4 0).toNat
def Ff_Sm(n:Nat)(l:List av):Prop:=l.length=5/\ ∀k,k<5->(l.getD k 0).toNat<n
def Ff_Tight(l:List av):Prop:=l.length=5/\(l.getD 0 0).toNat<2251799813685248/\(l.getD 1 0).toNat<=2251799813685248/\(l.getD 2 0).toNat<2251799813685248/\(l.getD 3 0).toNat<2251799813685248/\(l.getD 4 0).toNat<2251799813685248
abbrev aD(l:List av):Prop:=Ff_Sm 4503599627370496 l
theorem Ff_Tight.small{l:List av}(h:Ff_Tight l):aD l:=by
 obtain⟨h,h0,a,h2,b,c⟩:=h;refine⟨h,λk d=>?_⟩;obtain rfl|rfl|rfl|rfl|rfl:k=0\/k=1\/k=2\/k=3\/k=4:=oo
 all_goals omega
theorem Ff_Sm.mono{m n:Nat}{l:List av}(h:Ff_Sm m l)(b:m<=n):Ff_Sm n l:=⟨h.1,λk a=>Nat.lt_of_lt_of_le (h.2 k a) b⟩
theorem rn(x:av):(x&&&Ff_M51).toNat=x.toNat%2251799813685248:=by
 rw[BitVec.toNat_and];exact Nat.and_two_pow_sub_one_eq_mod x.toNat 51
theorem uD(x:av):(x>>>51).toNat=x.toNat/2251799813685248:=by
 rw[BitVec.toNat_ushiftRight,Nat.shiftRight_eq_div_pow]
theorem kl(x y:av)(h:x.toNat+y.toNat<18446744073709551616):(x+y).toNat=x.toNat+y.toNat:=by
 rw[Qp,Qf (by simpa using h)]
theorem aaT(x y:av)(h:x.toNat*y.toNat<18446744073709551616):(x*y).toNat=x.toNat*y.toNat:=by
 rw[BitVec.toNat_mul,Qf (by simpa using h)]
theorem uF(x:av)(h:x.toNat<900000000000000000):(19*x).toNat=19*x.toNat:=by
 rw[aaT]
 .rfl
 .show 19*x.toNat<_;omega
theorem zJ(a:List av)(o:av)(h:Ff_Sm 9223372036854775808 a)(t:o.toNat<4611686018427387904):
  Ff_Sm 2251799813685248 (bE a o).1/\(bE a o).2.toNat<=4096/\bo (bE a o).1+57896044618658097711785492504343953926634992332820282019728792003956564819968*(bE a o).2.toNat=bo a+o.toNat:=by
 obtain⟨b,c,d,f,g,rfl⟩:=bH a h.1;have h0:=h.2 0 oo;have n:=h.2 1 oo;have h2:=h.2 2 oo;have p:=h.2 3 oo;have q:=h.2 4 oo;simp only[Qa,Qc]at h0 n h2 p q;have e:bE [b,c,d,f,g] o=
   ([(b+o)&&&Ff_M51,(c+(b+o)>>>51)&&&Ff_M51,(d+(c+(b+o)>>>51)>>>51)&&&Ff_M51,(f+(d+(c+(b+o)>>>51)>>>51)>>>51)&&&Ff_M51,(g+(f+(d+(c+(b+o)>>>51)>>>51)>>>51)>>>51)&&&Ff_M51],(g+(f+(d+(c+(b+o)>>>51)>>>51)>>>51)>>>51)>>>51):=rfl
 rw[e];have E:(b+o).toNat=b.toNat+o.toNat:=kl _ _ oo;have z:=uD (b+o);have F:(c+(b+o)>>>51).toNat=c.toNat+((b+o)>>>51).toNat:=kl _ _ oo;have u:=rn (b+o);generalize (b+o)>>>51=i at*;have A:=uD (c+i);have v:=rn (c+i);have G:(d+(c+i)>>>51).toNat=d.toNat+((c+i)>>>51).toNat:=kl _ _ oo;generalize (c+i)>>>51=j at*;have B:=uD (d+j);have w:=rn (d+j);have H:(f+(d+j)>>>51).toNat=f.toNat+((d+j)>>>51).toNat:=kl _ _ oo;generalize (d+j)>>>51=l at*;have C:=uD (f+l);have x:=rn (f+l);have I:(g+(f+l)>>>51).toNat=g.toNat+((f+l)>>>51).toNat:=kl _ _ oo;generalize (f+l)>>>51=m at*;have D:=uD (g+m);have y:=rn (g+m);generalize (g+m)>>>51=r at*;refine⟨⟨rfl,λk s=>?_⟩,?_,?_⟩
 .obtain rfl|rfl|rfl|rfl|rfl:k=0\/k=1\/k=2\/k=3\/k=4:=oo
  all_goals simp only[Qa,Qc];omega
 .show r.toNat<=4096
  omega
 .simp only[bo,Qa,Qc];omega
theorem tJ(a:List av)(r:Ff_Sm 9223372036854775808 a):Ff_Tight (bD a)/\ ∃q,bo (bD a)+qG*q=bo a:=by
 obtain⟨c,h2,p⟩:=zJ a 0 r ss;unfold bD;generalize (bE a 0).1=l at*;generalize (bE a 0).2=o at*;obtain⟨b,d,f,g,h,rfl⟩:=bH l c.1;have i:=c.2 0 oo;have j:=c.2 1 oo;have k:=c.2 2 oo;have m:=c.2 3 oo;have n:=c.2 4 oo;simp only[Qa,Qc]at i j k m n;have e:qR [b,d,f,g,h] o=[(b+19*o)&&&Ff_M51,d+(b+19*o)>>>51,f,g,h]:=rfl;rw[e];have s:=uF o oo;have v:(b+19*o).toNat=b.toNat+(19*o).toNat:=kl _ _ oo;have u:=uD (b+19*o);have t:=rn (b+19*o);have w:(d+(b+19*o)>>>51).toNat=d.toNat+((b+19*o)>>>51).toNat:=kl _ _ oo;refine⟨⟨rfl,?_⟩,o.toNat,?_⟩
 .simp only[Qa,Qc];omega
 .simp only[bo,Qa,Qc,qG]at*;rw[show (0:av).toNat=0 from rfl]at p;omega
theorem Ff_Tight.val_lt{l:List av}(h:Ff_Tight l):bo l<57896044618658097711785492504343953926634992332820282019728792003956564819968+2251799813685248:=by
 obtain⟨_,h0,a,h2,b,c⟩:=h;unfold bo;omega
theorem pi(a:List av)(p:Ff_Sm 9223372036854775808 a):Ff_Sm 2251799813685248 (aW a)/\bo (aW a)=bo a%qG:=by
 obtain⟨ht,q,s⟩:=tJ a p;unfold aW;generalize bD a=l at*;have w:=ht.val_lt;have e:Ff_Sm 9223372036854775808 l:=ht.small.mono oo;obtain⟨m,h2,d⟩:=zJ l 19 e dd;have z:bo (bE l 19).1<57896044618658097711785492504343953926634992332820282019728792003956564819968:=by
  obtain⟨_,b⟩:=m;have f:=b 0 oo;have g:=b 1 oo;have i:=b 2 oo;have j:=b 3 oo;have k:=b 4 oo;unfold bo;omega
 generalize (bE l 19).2=o at*;rw[show (19:av).toNat=19 from rfl]at d;have x:o.toNat<=1:=oo
 have r:=uF o oo;obtain⟨c,t,u⟩:=zJ l (19*o) e oo;refine⟨c,?_⟩;have A:bo (bE l (19*o)).1<57896044618658097711785492504343953926634992332820282019728792003956564819968:=by
  obtain⟨_,b⟩:=c;have f:=b 0 oo;have g:=b 1 oo;have i:=b 2 oo;have j:=b 3 oo;have k:=b 4 oo;unfold bo;omega
 generalize bo (bE l (19*o)).1=v at*;generalize (bE l (19*o)).2=y at*;rw[<-s,Qd];generalize bo l=n at*;unfold qG;have:o.toNat=0\/o.toNat=1:=oo
 rcases this with h|h<;>rw[h]at r d<;>omega
theorem RN(a b:List av)(o:aD a)(p:aD b):Ff_Tight (aI a b)/\Ff_Cg (bo (aI a b)) (bo a+bo b):=by
 obtain⟨c,d,f,g,h,rfl⟩:=bH a o.1;obtain⟨i,j,l,m,n,rfl⟩:=bH b p.1;have h0:=o.2 0 oo;have w:=o.2 1 oo;have h2:=o.2 2 oo;have x:=o.2 3 oo;have y:=o.2 4 oo;have r:=p.2 0 oo;have s:=p.2 1 oo;have t:=p.2 2 oo;have u:=p.2 3 oo;have v:=p.2 4 oo;simp only[Qa,Qc]at h0 w h2 x y r s t u v;have B:=kl c i oo;have C:=kl d j oo;have D:=kl f l oo;have E:=kl g m oo;have F:=kl h n oo;have e:eL [c,d,f,g,h] [i,j,l,m,n] 5=[c+i,d+j,f+l,g+m,h+n]:=rfl;unfold aI;rw[e];obtain⟨ht,q,z⟩:=tJ [c+i,d+j,f+l,g+m,h+n] ⟨rfl,λk A=>by
  obtain rfl|rfl|rfl|rfl|rfl:k=0\/k=1\/k=2\/k=3\/k=4:=oo
  all_goals simp only[Qa,Qc];omega⟩
 refine⟨ht,?_⟩;have:bo [c+i,d+j,f+l,g+m,h+n]=bo [c,d,f,g,h]+bo [i,j,l,m,n]:=by
  simp only[bo,Qa,Qc];omega
 unfold Ff_Cg;rw[<-this,<-z,Qd]
theorem BT(x y:av)(h:y.toNat<=x.toNat):(x-y).toNat=x.toNat-y.toNat:=by
 rw[BitVec.toNat_sub];have:=x.isLt;have:=y.isLt;omega
theorem O4(a b:List av)(o:aD a)(p:aD b):Ff_Tight (aL a b)/\Ff_Cg (bo (aL a b)+bo b) (bo a):=by
 obtain⟨c,d,f,g,h,rfl⟩:=bH a o.1;obtain⟨i,j,l,m,n,rfl⟩:=bH b p.1;have h0:=o.2 0 oo;have I:=o.2 1 oo;have h2:=o.2 2 oo;have J:=o.2 3 oo;have K:=o.2 4 oo;have D:=p.2 0 oo;have E:=p.2 1 oo;have F:=p.2 2 oo;have G:=p.2 3 oo;have H:=p.2 4 oo;simp only[Qa,Qc]at h0 I h2 J K D E F G H;have w:(9007199254740916:av).toNat=9007199254740916:=rfl;have x:(9007199254740988:av).toNat=9007199254740988:=rfl;have y:=BT 9007199254740916 i oo;have z:=BT 9007199254740988 j oo;have A:=BT 9007199254740988 l oo;have B:=BT 9007199254740988 m oo;have C:=BT 9007199254740988 n oo;have e:dN [c,d,f,g,h] [i,j,l,m,n] 5=[c+(9007199254740916-i),d+(9007199254740988-j),f+(9007199254740988-l),g+(9007199254740988-m),h+(9007199254740988-n)]:=rfl;unfold aL;rw[e];rw[w]at y;rw[x]at z A B C;generalize (9007199254740916:av)-i=r at*;generalize (9007199254740988:av)-j=s at*;generalize (9007199254740988:av)-l=t at*;generalize (9007199254740988:av)-m=u at*;generalize (9007199254740988:av)-n=v at*;have O:=kl c r oo;have P:=kl d s oo;have Q:=kl f t oo;have R:=kl g u oo;have S:=kl h v oo;obtain⟨ht,q,N⟩:=tJ [c+r,d+s,f+t,g+u,h+v] ⟨rfl,λk M=>by
  obtain rfl|rfl|rfl|rfl|rfl:k=0\/k=1\/k=2\/k=3\/k=4:=oo
  all_goals simp only[Qa,Qc];omega⟩
 refine⟨ht,?_⟩;have:bo [c+r,d+s,f+t,g+u,h+v]+bo [i,j,l,m,n]=bo [c,d,f,g,h]+qG*4:=by
  simp only[bo,Qa,Qc,qG];omega
 have L:bo [c+r,d+s,f+t,g+u,h+v]+bo [i,j,l,m,n]=bo (bD [c+r,d+s,f+t,g+u,h+v])+bo [i,j,l,m,n]+qG*q:=oo
 unfold Ff_Cg;rw[<-Qd _ qG q,<-L,this,Qd]
theorem te(a b:List av)(n:a.length=5)(o:b.length=5):aY 0 a b=(a,b):=by
 obtain⟨c,d,f,g,h,rfl⟩:=bH a n;obtain⟨i,j,k,l,m,rfl⟩:=bH b o;have e:aY 0 [c,d,f,g,h] [i,j,k,l,m]=([c^^^(-0&&&(c^^^i)),d^^^(-0&&&(d^^^j)),f^^^(-0&&&(f^^^k)),g^^^(-0&&&(g^^^l)),h^^^(-0&&&(h^^^m))],[i^^^(-0&&&(c^^^i)),j^^^(-0&&&(d^^^j)),k^^^(-0&&&(f^^^k)),l^^^(-0&&&(g^^^l)),m^^^(-0&&&(h^^^m))]):=rfl;rw[e];simp
theorem uc(a b:List av)(o:a.length=5)(p:b.length=5):aY 1 a b=(b,a):=by
 obtain⟨c,d,f,g,h,rfl⟩:=bH a o;obtain⟨i,j,k,l,m,rfl⟩:=bH b p;have e:aY 1 [c,d,f,g,h] [i,j,k,l,m]=([c^^^(-1&&&(c^^^i)),d^^^(-1&&&(d^^^j)),f^^^(-1&&&(f^^^k)),g^^^(-1&&&(g^^^l)),h^^^(-1&&&(h^^^m))],[i^^^(-1&&&(c^^^i)),j^^^(-1&&&(d^^^j)),k^^^(-1&&&(f^^^k)),l^^^(-1&&&(g^^^l)),m^^^(-1&&&(h^^^m))]):=rfl;have r:(-1:av)=BitVec.allOnes 64:=dd
 have n:∀x y:av,x^^^(-1&&&(x^^^y))=y:=λx y=>by rw[r,BitVec.allOnes_and,<-BitVec.xor_assoc,BitVec.xor_self,BitVec.zero_xor]
 have q:∀x y:av,y^^^(-1&&&(x^^^y))=x:=λx y=>by rw[BitVec.xor_comm x y];exact n y x
 rw[e];simp only[n,q]
def dv(n:Nat):av:=Qo 64 (n/18446744073709551616)
def bn(n:Nat):av:=Qo 64 n
def aO(n:Nat)(a b:av):Nat:=(n+a.toNat*b.toNat)%340282366920938463463374607431768211456
def eu:List Nat->List av
 | []=>[]
 |n::l=>dv n::bn n::eu l
theorem xe(l:List Nat):(eu l).length=2*l.length:=by
 induction l with
 |nil=>rfl
 |cons n l a=>simp[eu,a];omega
def nm(s:List Nat)(a b:List av)(i j:Nat):List Nat:=
 if i+j<5 then s.set (i+j) (aO (s.getD (i+j) 0) (a.getD i 0) (b.getD j 0))else s.set (i+j-5) (aO (s.getD (i+j-5) 0) (a.getD i 0) (19*b.getD j 0))
theorem Ke(s:List Nat)(a b:List av)(i j:Nat):(nm s a b i j).length=s.length:=by
 unfold nm;split<;>simp
def jJ(a b:List av)(s:List Nat)(i:Nat):Nat->List Nat
 |0=>s
 |j+1=>nm (jJ a b s i j) a b i j
theorem BU(a b:List av)(s:List Nat)(i j:Nat):(jJ a b s i j).length=s.length:=by
 induction j with
 |zero=>rfl
 |succ j c=>simp[jJ,Ke,c]
def fY(a b:List av):Nat->List Nat
 |0=>[0,0,0,0,0]
 |i+1=>jJ a b (fY a b i) i 5
theorem yx(a b:List av)(i:Nat):(fY a b i).length=5:=by
 induction i with
 |zero=>rfl
 |succ i c=>simp[fY,BU,c]
def fV(n:Nat)(o:av):av:=((dv n+Qo 64 (((bn n).toNat+o.toNat)/18446744073709551616))<<<13)|||((bn n+o)>>>51)
def cT(s:List Nat):Nat->List av×av
 |0=>([0,0,0,0,0],0)
 |k+1=>((cT s k).1.set k ((bn (s.getD k 0)+(cT s k).2)&&&Ff_M51),fV (s.getD k 0) (cT s k).2)
theorem Aq(s:List Nat)(k:Nat):(cT s k).1.length=5:=by
 induction k with
 |zero=>rfl
 |succ k a=>simp[cT,a]
def jS(s:List Nat):List av:=bD ((cT s 5).1.set 0 ((cT s 5).1.getD 0 0+19*(cT s 5).2))
theorem zG(s:List Nat):(jS s).length=5:=by simp[jS,jr,Aq]
def aa(a b:List av):List av:=jS (fY a b 5)
theorem aw(a b:List av):(aa a b).length=5:=zG _
theorem tf(n:Nat)(o:av)(g:n<20769187434139310514121985316880384)(h:o.toNat<18446744073709551616):(fV n o).toNat=(n+o.toNat)/2251799813685248:=by
 unfold fV;have a:(dv n).toNat=n/18446744073709551616:=by unfold dv;rw[Qn,Qf oo]
 have h2:(bn n).toNat=n%18446744073709551616:=by unfold bn;rw[Qn]
 have b:(bn n+o).toNat=(n+o.toNat)%18446744073709551616:=by rw[Qp,h2];omega
 have c:(Qo 64 (((bn n).toNat+o.toNat)/18446744073709551616)).toNat=((bn n).toNat+o.toNat)/18446744073709551616:=by
  rw[Qn,Qf oo]
 have d:(dv n+Qo 64 (((bn n).toNat+o.toNat)/18446744073709551616)).toNat=(n+o.toNat)/18446744073709551616:=by
  rw[kl _ _ oo,a,c,h2];omega
 rw[BitVec.toNat_or,BitVec.toNat_shiftLeft,d,uD,b];have e:(n+o.toNat)%18446744073709551616/2251799813685248<2^13:=oo
 have f:((n+o.toNat)/18446744073709551616)<<<13%2^64=((n+o.toNat)/18446744073709551616)<<<13:=by
  rw[Qi];omega
 rw[f,<-Nat.shiftLeft_add_eq_or_of_lt e,Qi];omega
theorem ud(n:Nat)(o:av):((bn n+o)&&&Ff_M51).toNat=(n+o.toNat)%2251799813685248:=by
 have h2:(bn n).toNat=n%18446744073709551616:=by unfold bn;rw[Qn]
 rw[rn,Qp,h2];omega
def BR(s:List Nat):Nat:=s.getD 0 0+2251799813685248*s.getD 1 0+5070602400912917605986812821504*s.getD 2 0+11417981541647679048466287755595961091061972992*s.getD 3 0+25711008708143844408671393477458601640355247900524685364822016*s.getD 4 0
theorem MN(a b c d f:Nat)(h0:a<10384593717069655257060992658440192)(x:b<10384593717069655257060992658440192)(h2:c<10384593717069655257060992658440192)(y:d<10384593717069655257060992658440192)(A:f<162259276829213363391578010288128):
  Ff_Tight (jS [a,b,c,d,f])/\bo (jS [a,b,c,d,f])%qG=BR [a,b,c,d,f]%qG:=by
 have e:cT [a,b,c,d,f] 5=([(bn a+0)&&&Ff_M51,(bn b+fV a 0)&&&Ff_M51,(bn c+fV b (fV a 0))&&&Ff_M51,(bn d+fV c (fV b (fV a 0)))&&&Ff_M51,(bn f+fV d (fV c (fV b (fV a 0))))&&&Ff_M51],fV f (fV d (fV c (fV b (fV a 0))))):=rfl;unfold jS;rw[e];have z:(0:av).toNat=0:=rfl;have w:=tf a 0 oo oo;have v:=ud a 0;generalize fV a 0=n at*;have H:=tf b n oo oo;have C:=ud b n;generalize fV b n=o at*;have I:=tf c o oo oo;have D:=ud c o;generalize fV c o=p at*;have J:=tf d p oo oo;have E:=ud d p;generalize fV d p=r at*;have K:=tf f r oo oo;have F:=ud f r;generalize fV f r=g at*;generalize (bn a+0)&&&Ff_M51=h at*;generalize (bn b+n)&&&Ff_M51=i at*;generalize (bn c+o)&&&Ff_M51=j at*;generalize (bn d+p)&&&Ff_M51=l at*;generalize (bn f+r)&&&Ff_M51=m at*;rw[z]at w v;have s:=uF g oo;have G:(h+19*g).toNat=h.toNat+(19*g).toNat:=kl _ _ oo;have t: [h,i,j,l,m].set 0 ([h,i,j,l,m].getD 0 0+19*g)=[h+19*g,i,j,l,m]:=rfl;show Ff_Tight (bD ([h,i,j,l,m].set 0 ([h,i,j,l,m].getD 0 0+19*g)))/\_
 rw[t];obtain⟨ht,q,u⟩:=tJ [h+19*g,i,j,l,m] ⟨rfl,λk B=>by
  obtain rfl|rfl|rfl|rfl|rfl:k=0\/k=1\/k=2\/k=3\/k=4:=oo
  all_goals simp only[Qa,Qc];omega⟩
 refine⟨ht,?_⟩;show bo (bD [h+19*g,i,j,l,m])%qG=_
 have:bo [h+19*g,i,j,l,m]+qG*g.toNat=BR [a,b,c,d,f]:=by
  simp only[bo,BR,Qa,Qc,qG];omega
 rw[<-this,<-u,Qd,Qd]
theorem YP(a b c d e f g h i j B:Nat):
  (a+B*b+B*B*c+B*B*B*d+B*B*B*B*e)*(f+B*g+B*B*h+B*B*B*i+B*B*B*B*j)=
   a*f+B*(a*g+b*f)+B*B*(a*h+b*g+c*f)+B*B*B*(a*i+b*h+c*g+d*f)+B*B*B*B*(a*j+b*i+c*h+d*g+e*f)+B*B*B*B*B*((b*j+c*i+d*h+e*g)+B*(c*j+d*i+e*h)+B*B*(d*j+e*i)+B*B*B*(e*j)):=by
 grind
theorem cO{x y m n:Nat}(a:x<m)(b:y<n):x*y<m*n:=by
 rcases Nat.eq_zero_or_pos x with h|h
 .subst h;rw[Nat.zero_mul];exact Nat.mul_pos oo oo
 .exact Nat.mul_lt_mul_of_lt_of_le a (Nat.le_of_lt b) oo
theorem aaS(a l m n o b c d e f:av)(g h i j k:Nat):jJ [a,l,m,n,o] [b,c,d,e,f] [g,h,i,j,k] 0 5=[aO g a b,aO h a c,aO i a d,aO j a e,aO k a f]:=rfl
theorem aaR(l a m n o b c d e f:av)(g h i j k:Nat):jJ [l,a,m,n,o] [b,c,d,e,f] [g,h,i,j,k] 1 5=[aO g a (19*f),aO h a b,aO i a c,aO j a d,aO k a e]:=rfl
theorem aaQ(l m a n o b c d e f:av)(g h i j k:Nat):jJ [l,m,a,n,o] [b,c,d,e,f] [g,h,i,j,k] 2 5=[aO g a (19*e),aO h a (19*f),aO i a b,aO j a c,aO k a d]:=rfl
theorem aaP(l m n a o b c d e f:av)(g h i j k:Nat):jJ [l,m,n,a,o] [b,c,d,e,f] [g,h,i,j,k] 3 5=[aO g a (19*d),aO h a (19*e),aO i a (19*f),aO j a b,aO k a c]:=rfl
theorem aaO(l m n o a b c d e f:av)(g h i j k:Nat):jJ [l,m,n,o,a] [b,c,d,e,f] [g,h,i,j,k] 4 5=[aO g a (19*c),aO h a (19*d),aO i a (19*e),aO j a (19*f),aO k a b]:=rfl
theorem RM(a b c d e f g h i j:av):fY [a,b,c,d,e] [f,g,h,i,j] 5=
   [aO (aO (aO (aO (aO 0 a f) b (19*j)) c (19*i)) d (19*h)) e (19*g),
   aO (aO (aO (aO (aO 0 a g) b f) c (19*j)) d (19*i)) e (19*h),
   aO (aO (aO (aO (aO 0 a h) b g) c f) d (19*j)) e (19*i),
   aO (aO (aO (aO (aO 0 a i) b h) c g) d f) e (19*j),
   aO (aO (aO (aO (aO 0 a j) b i) c h) d g) e f]:=by
 simp only[fY,aaS,aaR,aaQ,aaP,aaO]
theorem nY(a b:List av)(u:aD a)(v:aD b):Ff_Tight (aa a b)/\Ff_Cg (bo (aa a b)) (bo a*bo b):=by
 obtain⟨g,h,i,j,k,rfl⟩:=bH a u.1;obtain⟨l,c,d,e,f,rfl⟩:=bH b v.1;have h0:=u.2 0 oo;have r:=u.2 1 oo;have h2:=u.2 2 oo;have s:=u.2 3 oo;have t:=u.2 4 oo;have m:=v.2 0 oo;have n:=v.2 1 oo;have o:=v.2 2 oo;have p:=v.2 3 oo;have q:=v.2 4 oo;simp only[Qa,Qc]at h0 r h2 s t m n o p q;unfold aa;rw[RM];have Z:=uF c oo;have k2:=uF d oo;have k3:=uF e oo;have k4:=uF f oo;simp only[aO,Z,k2,k3,k4,Nat.mul_left_comm _ 19 _];have X:=YP g.toNat h.toNat i.toNat j.toNat k.toNat l.toNat c.toNat d.toNat e.toNat f.toNat 2251799813685248;have ad:=cO h0 m;have ag:=cO h0 n;have ah:=cO h0 o;have an:=cO h0 p;have ao:=cO h0 q;have ap:=cO r m;have ax:=cO r n;have ay:=cO r o;have az:=cO r p;have a5:=cO r q;have a6:=cO h2 m;have a7:=cO h2 n;have a8:=cO h2 o;have a9:=cO h2 p;have ba:=cO h2 q;have bb:=cO s m;have bd:=cO s n;have bh:=cO s o;have bi:=cO s p;have bk:=cO s q;have bq:=cO t m;have bs:=cO t n;have bt:=cO t o;have bx:=cO t p;have bz:=cO t q;simp only[Nat.reduceMul]at X;unfold Ff_Cg;rw[show bo [g,h,i,j,k]*bo [l,c,d,e,f]=_ by simp only[bo,Qa,Qc];exact X];clear X Z k2 k3 k4 h0 r h2 s t m n o p q u v;generalize g.toNat*l.toNat=G at*;generalize g.toNat*c.toNat=H at*;generalize g.toNat*d.toNat=I at*;generalize g.toNat*e.toNat=J at*;generalize g.toNat*f.toNat=K at*;generalize h.toNat*l.toNat=L at*;generalize h.toNat*c.toNat=M at*;generalize h.toNat*d.toNat=N at*;generalize h.toNat*e.toNat=O at*;generalize h.toNat*f.toNat=w at*;generalize i.toNat*l.toNat=P at*;generalize i.toNat*c.toNat=Q at*;generalize i.toNat*d.toNat=R at*;generalize i.toNat*e.toNat=x at*;generalize i.toNat*f.toNat=y at*;generalize j.toNat*l.toNat=S at*;generalize j.toNat*c.toNat=T at*;generalize j.toNat*d.toNat=z at*;generalize j.toNat*e.toNat=A at*;generalize j.toNat*f.toNat=B at*;generalize k.toNat*l.toNat=W at*;generalize k.toNat*c.toNat=C at*;generalize k.toNat*d.toNat=D at*;generalize k.toNat*e.toNat=E at*;generalize k.toNat*f.toNat=F at*;have E0:(((((0+G)%340282366920938463463374607431768211456+19*w)%340282366920938463463374607431768211456+19*x)%340282366920938463463374607431768211456+19*z)%340282366920938463463374607431768211456+19*C)%340282366920938463463374607431768211456=G+19*w+19*x+19*z+19*C:=oo
 have E1:(((((0+H)%340282366920938463463374607431768211456+L)%340282366920938463463374607431768211456+19*y)%340282366920938463463374607431768211456+19*A)%340282366920938463463374607431768211456+19*D)%340282366920938463463374607431768211456=H+L+19*y+19*A+19*D:=oo
 have E2:(((((0+I)%340282366920938463463374607431768211456+M)%340282366920938463463374607431768211456+P)%340282366920938463463374607431768211456+19*B)%340282366920938463463374607431768211456+19*E)%340282366920938463463374607431768211456=I+M+P+19*B+19*E:=oo
 have E3:(((((0+J)%340282366920938463463374607431768211456+N)%340282366920938463463374607431768211456+Q)%340282366920938463463374607431768211456+S)%340282366920938463463374607431768211456+19*F)%340282366920938463463374607431768211456=J+N+Q+S+19*F:=oo
 have E4:(((((0+K)%340282366920938463463374607431768211456+O)%340282366920938463463374607431768211456+R)%340282366920938463463374607431768211456+T)%340282366920938463463374607431768211456+W)%340282366920938463463374607431768211456=K+O+R+T+W:=oo
 rw[E0,E1,E2,E3,E4];obtain⟨ht,hv⟩:=MN (G+19*w+19*x+19*z+19*C) (H+L+19*y+19*A+19*D) (I+M+P+19*B+19*E) (J+N+Q+S+19*F) (K+O+R+T+W) oo oo oo oo oo;refine⟨ht,?_⟩;have ab:BR [G+19*w+19*x+19*z+19*C,H+L+19*y+19*A+19*D,I+M+P+19*B+19*E,J+N+Q+S+19*F,K+O+R+T+W]+qG*(w+x+z+C+2251799813685248*(y+A+D)+5070602400912917605986812821504*(B+E)+11417981541647679048466287755595961091061972992*F)=G+2251799813685248*(H+L)+5070602400912917605986812821504*(I+M+P)+11417981541647679048466287755595961091061972992*(J+N+Q+S)+25711008708143844408671393477458601640355247900524685364822016*(K+O+R+T+W)+57896044618658097711785492504343953926634992332820282019728792003956564819968*(w+x+z+C+2251799813685248*(y+A+D)+5070602400912917605986812821504*(B+E)+11417981541647679048466287755595961091061972992*F):=by
  simp only[BR,Qa,Qc,qG];omega
 rw[hv,<-ab,Qd]
def aX(a:List av):Nat->List av
 |0=>a
 |n+1=>aa (aX a n) (aX a n)
theorem oy(a:List av)(b:a.length=5)(n:Nat):(aX a n).length=5:=by
 cases n with
 |zero=>exact b
 |succ n=>exact aw _ _
theorem qE(a:List av)(g:aD a):∀(n e:Nat),e=2^n->aD (aX a n)/\Ff_Cg (bo (aX a n)) (bo a^e)
 |0,e,b=>⟨g,.of_eq (by rw[b];simp[aX])⟩
 |n+1,e,b=>by
  obtain⟨f,d⟩:∃f,f=2^n:=⟨_,rfl⟩
  have c:=qE a g n f d;obtain⟨h,h2⟩:=nY _ _ c.1 c.1;have i:e=f+f:=by rw[b,d,Qg,Nat.mul_two]
  clear b d;subst i;refine⟨h.small,Ff_Cg.trans h2 ?_⟩;rw[Qe];exact Ff_Cg.mul c.2 c.2
def l9(a h:List av)(n:Nat):List av:=
 if n%2=1 then aa (aa (aa (aX h (n/2)) h) (aa (aX h (n/2)) h)) a else aa (aX h (n/2)) h
def iS(a:List av):Nat->Nat->List av
 |0,_=>a
 |f+1,n=>if n=1 then a else l9 a (iS a f (n/2)) n
theorem O2(n:Nat):2^n=2^(n/2)*2^(n/2)*2^(n%2):=by
 rw[<-Qe,<-Qe,show n/2+n/2+n%2=n by omega]
theorem Kh(a h:List av)(n f e:Nat)(o:aD a)(k:aD h)(j:f+1=2^(n/2))(p:e+1=2^n)(l:Ff_Cg (bo h) (bo a^f)):aD (l9 a h n)/\Ff_Cg (bo (l9 a h n)) (bo a^e):=by
 obtain⟨r,v⟩:=qE h k (n/2) (f+1) j;obtain⟨d,w⟩:=nY _ _ r k;have g:Ff_Cg (bo (aa (aX h (n/2)) h)) (bo a^(f*(f+1)+f)):=by
  rw[Qe,Qj];exact Ff_Cg.trans w (Ff_Cg.mul (Ff_Cg.trans v (l.pow (f+1))) l)
 have b:=O2 n;rw[<-j,<-p]at b;unfold l9;generalize aa (aX h (n/2)) h=t at*;have q:f*(f+1)+f+1=(f+1)*(f+1):=by rw[Nat.add_mul f 1 (f+1)];omega
 generalize f*(f+1)+f=m at*;rw[<-q]at b;split
 .rename_i i
  rw[i]at b;obtain⟨s,x⟩:=nY _ _ d.small d.small;obtain⟨u,y⟩:=nY _ _ s.small o;have c:e=m+m+1:=oo
  refine⟨u.small,Ff_Cg.trans y ?_⟩;rw[c,Qg,Qe];exact Ff_Cg.mul (Ff_Cg.trans x (Ff_Cg.mul g g)) (Ff_Cg.refl _)
 .rename_i i
  rw[show n%2=0 by omega]at b;have c:e=m:=oo
  rw[c];exact⟨d.small,g⟩
theorem A6(a:List av)(b:aD a):∀(k n e:Nat),1<=n->n<=k->e+1=2^n->aD (iS a k n)/\Ff_Cg (bo (iS a k n)) (bo a^e)
 |0,n,e,g,h2,_=>by omega
 |k+1,n,e,g,h2,h=>by
  unfold iS;by_cases c:n=1
  .subst c;rw[if_pos rfl];have:e=1:=oo
   subst this;exact⟨b,.of_eq (by rw[Nat.pow_one])⟩
  .rw[if_neg c];obtain⟨f,d⟩:∃f,f+1=2^(n/2):=⟨2^(n/2)-1,by have:=Nat.two_pow_pos (n/2);omega⟩
   obtain⟨i,j⟩:=A6 a b k (n/2) f oo oo d;exact Kh a _ n f e b i d h j
theorem xd(a:List av)(b:a.length=5):∀(f n:Nat),(iS a f n).length=5
 |0,_=>b
 |f+1,n=>by
  unfold iS l9;split
  .exact b
  .split<;>exact aw _ _
def bN(a:List av):List av:=aa (aX (iS a 250 250) 5) (aa (aa (aX a 3) (aX a 1)) a)
theorem tP(a:List av):(bN a).length=5:=aw _ _
theorem Ld(a:List av)(b:aD a)(e:Nat)(c:e+2=qG):Ff_Tight (bN a)/\Ff_Cg (bo (bN a)) (bo a^e):=by
 obtain⟨f,d⟩:∃f:Nat,f+1=2^250:=⟨1809251394333065553493296640760748560207343510400633813116524750123642650623,rfl⟩
 obtain⟨g,n⟩:=A6 a b 250 250 f oo oo d;obtain⟨h,o⟩:=qE _ g 5 32 rfl;obtain⟨i,p⟩:=qE a b 3 8 rfl;obtain⟨j,q⟩:=qE a b 1 2 rfl;obtain⟨k,r⟩:=nY _ _ i j;obtain⟨l,s⟩:=nY _ _ k.small b;obtain⟨m,t⟩:=nY _ _ h l.small;have h2:e=f*32+(8+2+1):=by unfold qG at c;omega
 rw[h2,Qe,Qj,Qg _ (8+2),Qe _ 8 2];exact⟨m,Ff_Cg.trans t (Ff_Cg.mul (Ff_Cg.trans o (n.pow 32)) (Ff_Cg.trans s (Ff_Cg.mul (Ff_Cg.trans r (Ff_Cg.mul p q)) (Ff_Cg.refl _))))⟩
end Go.Proofs.YtclpbaokadfhhaaGreatDoor
