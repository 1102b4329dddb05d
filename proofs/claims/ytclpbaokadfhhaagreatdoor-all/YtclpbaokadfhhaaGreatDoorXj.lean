import Derived.Test.YtclpbaokadfhhaaGreatDoorZg
import Derived.Test.YtclpbaokadfhhaaGreatDoorZc
import Derived.Test.YtclpbaokadfhhaaGreatDoorXf
section
open List renaming getD_cons_succ->Qa,getD_cons_zero->Qc,set_cons_zero->Qd,set_cons_succ->Qe,length_cons->Qf
open Nat renaming add_mul_div_left->Qg,div_eq_of_lt->Qi,div_div_eq_div_mul->Qj,pow_add->Qk,mul_assoc->Qm,two_pow_pos->Qn,add_mul_mod_self_left->Qo,pow_succ->Qp,mul_add->Qq,mod_eq_of_lt->Qt,zero_add->Qx,sub_self->Qy,pow_zero->Qz,div_one->QA
open Int renaming mul_assoc->QB,mul_add->QC,emod_eq_of_lt->QD,add_mul_emod_self_left->QE,pow_succ->QF,mul_comm->QG,mul_sub->QH,pow_add->QI
open BitVec renaming ofNat->QJ,toNat_ofNat->QL,and_allOnes->QM,allOnes->QN,eq_of_toNat_eq->QO,toNat_sub->QP,toNat_add->QQ,and_zero->QR
namespace Go.Proofs.YtclpbaokadfhhaaGreatDoor
def ch(f:Nat->Int):Nat->Int
 |0=>0
 |k+1=>ch f k+65536^k*f k
def ct(l:List Int):Int:=ch (λi=>l.getD i 0) 16
def fZ:Int:=57896044618658097711785492504343953926634992332820282019728792003956564819949
theorem yR(f:Nat->Int)(k:Nat):ch f (k+1)=ch f k+65536^k*f k:=rfl
theorem rV{f g:Nat->Int}:∀k,(∀j,j<k->f j=g j)->ch f k=ch g k
 |0,_=>rfl
 |k+1,h=>by rw[ch,ch,rV k (λj a=>h j (by omega)),h k (by omega)]
theorem EW(f g:Nat->Int):∀k,ch (λi=>f i+g i) k=ch f k+ch g k
 |0=>rfl
 |k+1=>by rw[ch,ch,ch,EW f g k,QC];omega
theorem Ml(f g:Nat->Int):∀k,ch (λi=>f i-g i) k=ch f k-ch g k
 |0=>rfl
 |k+1=>by rw[ch,ch,ch,Ml f g k,QH];omega
theorem Mm(c:Int)(f:Nat->Int):∀k,ch (λi=>c*f i) k=c*ch f k
 |0=>by simp[ch]
 |k+1=>by
  rw[ch,ch,Mm c f k,QC];congr 1
  rw[<-QB,QG (65536^k) c,QB]
theorem Gy(f:Nat->Int)(m:Nat):∀k,ch f (m+k)=ch f m+65536^m*ch (λj=>f (m+j)) k
 |0=>by simp[ch]
 |k+1=>by
  rw[<-Nat.add_assoc,ch,Gy f m k,ch,QC,QI,QB];omega
theorem EV(l:List Int)(i:Nat)(x:Int)(a:i<l.length):∀n,i<n->ch (λj=>(l.set i x).getD j 0) n=ch (λj=>l.getD j 0) n+65536^i*(x-l.getD i 0)
 |0,h=>by omega
 |n+1,h=>by
  rw[ch,ch];by_cases e:i=n
  .subst e;rw[dF _ _ _ a,rV i (g:=λj=>l.getD j 0) (λj b=>jg _ _ _ _ (by omega)),QH];omega
  .rw[jg _ _ _ _ e,EV l i x a n (by omega)];omega
theorem uU{l:List Int}(b:l.length=16)(i:Nat)(x:Int)(a:i<16):ct (l.set i x)=ct l+65536^i*(x-l.getD i 0):=EV l i x oo 16 a
theorem RW(l:List Int)(b:l.length=16)(i:Nat)(g:i<16):∃k,ct (kD l i)+fZ*k=ct l:=by
 have d:(iT l i).length=16:=by rw[BZ,b]
 have a:ct (iT l i)=ct l+65536^i*(-(l.getD i 0/65536*65536)):=by
  unfold iT;rw[uU b i _ g];congr 2;omega
 unfold kD;by_cases f:i<15
 .rw[if_pos f,uU d (i+1) _ oo,a];refine⟨0,?_⟩;rw[show (iT l i).getD (i+1) 0+l.getD i 0/65536-(iT l i).getD (i+1) 0=l.getD i 0/65536 by omega];generalize l.getD i 0/65536=c;rw[QF];generalize (65536:Int)^i=P;rw[QB P 65536 c,Int.mul_neg,QG c 65536];omega
 .have e:i=15:=oo
  subst e;rw[if_neg oo,uU d 0 _ oo,a];rw[show (iT l 15).getD 0 0+38*(l.getD 15 0/65536)-(iT l 15).getD 0 0=38*(l.getD 15 0/65536) by omega];generalize l.getD 15 0/65536=c;refine⟨2*c,?_⟩;rw[show (65536:Int)^15=1766847064778384329583297500742918515827483896875618958121606201292619776 by decide,show (65536:Int)^0=1 by decide];unfold fZ;omega
theorem A7(l:List Int)(a:l.length=16):∀i,i<=16-> ∃k,ct (cB l i)+fZ*k=ct l
 |0,_=>⟨0,by rw[cB];omega⟩
 |i+1,h=>by
  obtain⟨k,b⟩:=A7 l a i oo;obtain⟨m,c⟩:=RW (cB l i) (by rw[fg,a]) i oo;exact⟨k+m,by rw[cB,QC];omega⟩
theorem th(l:List Int)(a:l.length=16):∃k,ct (bO l)+fZ*k=ct l:=by
 obtain⟨k,b⟩:=A7 l a 16 oo;obtain⟨m,c⟩:=A7 (cB l 16) (by rw[fg,a]) 16 oo;refine⟨k+m,?_⟩;have e:bO l=cB (cB l 16) 16:=rfl;rw[e,QC];omega
theorem R5(a b:List Int)(c:a.length=16):∃k,ct (aJ a b)+fZ*k=ct a+ct b:=by
 obtain⟨k,f⟩:=th (B5 a b) (by unfold B5;rw[jo,c]);refine⟨k,?_⟩;have e:ct (B5 a b)=ct a+ct b:=by
  unfold ct;rw[<-EW];exact rV 16 (λj d=>by unfold B5;rw[wj _ _ _ _ _ oo oo,if_pos d])
 unfold aJ;rw[f,e]
theorem Pb(a b:List Int)(c:a.length=16):∃k,ct (au a b)+fZ*k=ct a-ct b:=by
 obtain⟨k,f⟩:=th (BX a b) (by unfold BX;rw[jo,c]);refine⟨k,?_⟩;have e:ct (BX a b)=ct a-ct b:=by
  unfold ct;rw[<-Ml];exact rV 16 (λj d=>by unfold BX;rw[wj _ _ _ _ _ oo oo,if_pos d])
 unfold au;rw[f,e]
def xf(t:List Int):Int:=ch (λi=>t.getD i 0) 31
theorem EY(a b t:List Int)(ht:t.length=31)(i:Nat)(d:i<16):∀k,k<=16->xf (iF a b t i k)=xf t+65536^i*(a.getD i 0*ch (λj=>b.getD j 0) k)
 |0,_=>by simp[iF,ch]
 |k+1,e=>by
  have c:=EY a b t ht i d k oo;have f:=wi a b t i k;unfold xf at c|-;rw[iF,EV _ _ _ oo 31 oo,c,yR (λj=>b.getD j 0) k];rw[show (iF a b t i k).getD (i+k) 0+a.getD i 0*b.getD k 0-(iF a b t i k).getD (i+k) 0=a.getD i 0*b.getD k 0 by omega];rw[QC,QC,QI];generalize (65536:Int)^i=X;generalize (65536:Int)^k=Y;generalize a.getD i 0=u;generalize b.getD k 0=v;generalize ch (λj=>b.getD j 0) k=s;rw[show X*Y*(u*v)=X*(u*(Y*v)) by rw[QB,<-QB Y u v,QG Y u,QB u Y v]];omega
theorem DF(a b:List Int):∀i,i<=16->xf (ek a b i)=ch (λj=>a.getD j 0) i*ct b
 |0,_=>by
  rw[ek,ch,Int.zero_mul];unfold xf;have:∀k,ch (λi=>Fd_none31.getD i 0) k=0:=by
   intro k;induction k with
   |zero=>rfl
   |succ k c=>
    rw[ch,c];have:Fd_none31.getD k 0=0:=pE 31 k;rw[this];simp
  exact this 31
 |i+1,h=>by
  rw[ek,EY a b _ (uI a b i) i oo 16 oo,DF a b i oo,yR (λj=>a.getD j 0) i,Int.add_mul];show _+65536^i*(a.getD i 0*ct b)=_+65536^i*a.getD i 0*ct b
  rw[QB]
theorem zM(t:List Int):∀k i,k<=16->i<k->(dt t k).getD i 0=if i<15 then t.getD i 0+38*t.getD (i+16) 0 else t.getD i 0
 |0,_,_,h=>by omega
 |k+1,i,a,h=>by
  rw[dt];by_cases e:k=i
  .subst e;rw[dF _ _ _ (by rw[nB];omega)]
  .rw[jg _ _ _ _ e,zM t k i (by omega) (by omega)]
theorem R7(t:List Int):∃k,ct (dt t 16)+fZ*k=xf t:=by
 have a:ct (dt t 16)=ch (λi=>t.getD i 0) 16+38*ch (λj=>t.getD (16+j) 0) 15:=by
  unfold ct;rw[yR (λi=>(dt t 16).getD i 0) 15,yR (λi=>t.getD i 0) 15,rV (f:=λi=>(dt t 16).getD i 0) 15 (g:=λi=>t.getD i 0+38*t.getD (16+i) 0) (λj c=>by rw[zM t 16 j oo oo,if_pos c,Nat.add_comm j 16])];rw[EW (λi=>t.getD i 0) (λi=>38*t.getD (16+i) 0) 15,Mm,zM t 16 15 oo oo,if_neg oo];omega
 have b:xf t=ch (λi=>t.getD i 0) 16+65536^16*ch (λj=>t.getD (16+j) 0) 15:=Gy _ 16 15;refine⟨2*ch (λj=>t.getD (16+j) 0) 15,?_⟩;rw[a,b,show (65536:Int)^16=115792089237316195423570985008687907853269984665640564039457584007913129639936 by decide];unfold fZ;omega
theorem WP(a b:List Int):∃k,ct (af a b)+fZ*k=ct a*ct b:=by
 obtain⟨k,d⟩:=th (dt (ek a b 16) 16) (nB _ _);obtain⟨m,f⟩:=R7 (ek a b 16);have e:=DF a b 16 oo;refine⟨k+m,?_⟩;have c:ch (λj=>a.getD j 0) 16=ct a:=rfl;rw[c]at e;unfold af;rw[QC,<-e];omega
theorem Fa(a:List Int):∀k i,k<=16->i<k->(fO a k).getD i 0=(a.getD i 0-iH i+lU a i)%65536
 |0,_,_,h=>by omega
 |k+1,i,b,h=>by
  rw[fO];by_cases e:k=i
  .subst e;rw[dF _ _ _ (by rw[kW];omega)]
  .rw[jg _ _ _ _ e,Fa a k i (by omega) (by omega)]
theorem DH(a:List Int):∀k,k<=16->ch (λj=>(fO a 16).getD j 0) k+65536^k*lU a k=ch (λj=>a.getD j 0) k-ch iH k
 |0,_=>by simp[ch,lU]
 |k+1,d=>by
  have e:=DH a k oo;rw[ch,ch,ch,Fa a 16 k oo oo,lU,QF];have b:=Int.emod_add_mul_ediv (a.getD k 0-iH k+lU a k) 65536;generalize (a.getD k 0-iH k+lU a k)%65536=r at b|-;generalize (a.getD k 0-iH k+lU a k)/65536=c at b|-;have:65536^k*r+65536^k*65536*c=65536^k*(a.getD k 0-iH k+lU a k):=by
   rw[<-b,QC,QB]
  rw[QC,QH]at this;omega
theorem YS:ch iH 16=fZ:=dk
theorem O9(f:Nat->Int):∀k,(∀j,j<k->0<=f j/\f j<=65535)->0<=ch f k/\ch f k<65536^k
 |0,_=>by simp[ch]
 |k+1,h=>by
  obtain⟨d,h2⟩:=O9 f k (λj i=>h j oo);obtain⟨b,c⟩:=h k oo;rw[ch,QF];have a:(0:Int)<=65536^k:=Int.le_of_lt (Int.pow_pos dd);have e:=Int.mul_nonneg a b;have g:=Int.mul_le_mul_of_nonneg_left c a;omega
theorem C6{a:List Int}(h:Fd_Norm a):0<=ct a/\ct a<115792089237316195423570985008687907853269984665640564039457584007913129639936:=by
 have:=O9 (λi=>a.getD i 0) 16 (λj _=>h.2 j);rw[show (65536:Int)^16=115792089237316195423570985008687907853269984665640564039457584007913129639936 by decide]at this;exact this
theorem GB{a:List Int}(h:Fd_Norm a):ct (nA a)=if fZ<=ct a then ct a-fZ else ct a:=by
 have b:=DH a 16 oo;rw[YS,show (65536:Int)^16=115792089237316195423570985008687907853269984665640564039457584007913129639936 by decide]at b;have i:=Hl a h 16;have k:=C6 ⟨kW a 16,E9 a 16⟩;have g:=C6 h;have c:ch (λj=>(fO a 16).getD j 0) 16=ct (fO a 16):=rfl;have d:ch (λj=>a.getD j 0) 16=ct a:=rfl;rw[c,d]at b;have f:fZ=57896044618658097711785492504343953926634992332820282019728792003956564819949:=rfl;unfold nA;have:lU a 16=0\/lU a 16= -1:=oo
 rcases this with e|e
 .rw[e]at b;rw[if_pos e,if_pos oo];omega
 .rw[e]at b;rw[if_neg oo,if_neg oo]
theorem MQ{a:List Int}(h:Fd_Norm a):ct (nA (nA a))=ct a%fZ:=by
 have d:=C6 h;have e:fZ=57896044618658097711785492504343953926634992332820282019728792003956564819949:=rfl;rw[GB (wl a h),GB h];by_cases b:fZ<=ct a
 .rw[if_pos b];by_cases c:fZ<=ct a-fZ
  .rw[if_pos c];have:ct a=(ct a-fZ-fZ)+fZ*2:=oo
   rw[this,QE,QD oo oo];omega
  .rw[if_neg c];have:ct a=(ct a-fZ)+fZ*1:=oo
   rw[this,QE,QD oo oo];omega
 .rw[if_neg b,if_neg b,QD oo oo]
abbrev bv:=BitVec 64
def be:Nat:=7237005577332262213973186563042994240857116359379907606001950938285454250989
def Sc_md:List bv:=[6346243789798364141,1503914060200516822,0,1152921504606846976]
def bZ(l:List bv):Nat:=(l.getD 0 0).toNat+18446744073709551616*(l.getD 1 0).toNat+340282366920938463463374607431768211456*(l.getD 2 0).toNat+6277101735386680763835789423207666416102355444464034512896*(l.getD 3 0).toNat
theorem pd(l:List bv)(h:l.length=4):∃a b c d,l=[a,b,c,d]:=by
 match l,h with
 | [a,b,c,d],_=>exact⟨a,b,c,d,rfl⟩
def bT(a b:List bv):Nat->List bv×bv
 |0=>(a,0)
 |k+1=>((bT a b k).1.set k ((bT a b k).1.getD k 0+b.getD k 0+(bT a b k).2),QJ 64 ((((bT a b k).1.getD k 0).toNat+(b.getD k 0).toNat+(bT a b k).2.toNat)/18446744073709551616))
theorem vP(a b:List bv)(k:Nat):(bT a b k).1.length=a.length:=by
 induction k with
 |zero=>rfl
 |succ k c=>simp[bT,c]
theorem ME(a b:List bv)(k:Nat):(bT a b k).2.toNat<=1:=by
 induction k with
 |zero=>simp[bT]
 |succ k c=>
  rw[bT,QL];have:=((bT a b k).1.getD k 0).isLt;have:=(b.getD k 0).isLt;omega
def ni(x y b:bv):bv:=if x.toNat<y.toNat+b.toNat then 1 else 0
def ck(a:List bv):Nat->List bv×bv
 |0=>([0,0,0,0],0)
 |k+1=>((ck a k).1.set k (a.getD k 0-Sc_md.getD k 0-(ck a k).2),ni (a.getD k 0) (Sc_md.getD k 0) (ck a k).2)
theorem r7(a:List bv)(k:Nat):(ck a k).1.length=4:=by
 induction k with
 |zero=>rfl
 |succ k b=>simp[ck,b]
theorem yE(x y b:bv):(ni x y b).toNat<=1:=by unfold ni;split<;>decide
theorem Do(a:List bv)(k:Nat):(ck a k).2.toNat<=1:=by
 cases k with
 |zero=>simp[ck]
 |succ k=>exact yE _ _ _
def fy(a l:List bv)(m:bv):Nat->List bv
 |0=>a
 |k+1=>(fy a l m k).set k (((fy a l m k).getD k 0&&&m)|||(l.getD k 0&&& ~~~m))
theorem zs(a l:List bv)(m:bv)(k:Nat):(fy a l m k).length=a.length:=by
 induction k with
 |zero=>rfl
 |succ k b=>simp[fy,b]
def gJ(a:List bv):List bv:=fy a (ck a 4).1 (-(ck a 4).2) 4
theorem yw(a:List bv):(gJ a).length=a.length:=zs _ _ _ _
def dI(a b:List bv):List bv:=gJ (bT a b 4).1
theorem kj(a b:List bv):(dI a b).length=a.length:=by rw[dI,yw,vP]
def f6(a:List bv)(m:bv):Nat->List bv
 |0=>a
 |k+1=>(f6 a m k).set k ((f6 a m k).getD k 0&&&m)
theorem uB(a:List bv)(m:bv)(k:Nat):(f6 a m k).length=a.length:=by
 induction k with
 |zero=>rfl
 |succ k b=>simp[f6,b]
def iN(a:List bv)(bit:bv):List bv:=f6 a (-bit) 4
theorem G9(a:List bv)(b:bv):(iN a b).length=a.length:=uB _ _ _
def kF(a:List bv)(at':Nat):bv:=(a.getD (at'/64) 0>>>(at'%64))&&&1
def eh(a b:List bv):Nat->List bv
 |0=>[0,0,0,0]
 |k+1=>dI (dI (eh a b k) (eh a b k)) (iN a (kF b (252-k)))
theorem tN(a b:List bv)(k:Nat):(eh a b k).length=4:=by
 cases k with
 |zero=>rfl
 |succ k=>rw[eh,kj,kj,tN a b k]
def pP(a b:List bv):List bv:=eh a b 253
theorem Ix(a b:List bv):(pP a b).length=4:=tN _ _ _
def pQ(s:List UInt8)(k:Nat):bv:=QJ 64 ((s.getD (k/8) 0).toNat/2^(k%8)%2)
def jl(s:List UInt8):Nat->List bv
 |0=>[0,0,0,0]
 |k+1=>dI (dI (jl s k) (jl s k)) [pQ s (8*s.length-1-k),0,0,0]
theorem wR(s:Qu)(k:Nat):(jl s k).length=4:=by
 cases k with
 |zero=>rfl
 |succ k=>rw[jl,kj,kj,wR s k]
def iX(s:List UInt8):List bv:=jl s (8*s.length)
theorem oN(s:Qu):(iX s).length=4:=wR _ _
def iQ(l:List bv):Prop:=l.length=4/\bZ l<be
theorem uR(a b c d:bv):bZ [a,b,c,d]=a.toNat+18446744073709551616*b.toNat+340282366920938463463374607431768211456*c.toNat+6277101735386680763835789423207666416102355444464034512896*d.toNat:=rfl
theorem zq:iQ [0,0,0,0]:=⟨rfl,dk⟩
theorem AQ:bZ [0,0,0,0]=0:=dk
theorem xA(x y c:bv)(a:c.toNat<=1):(x+y+c).toNat+18446744073709551616*(QJ 64 ((x.toNat+y.toNat+c.toNat)/18446744073709551616)).toNat=x.toNat+y.toNat+c.toNat:=by
 rw[QQ,QQ,QL];have:=x.isLt;have:=y.isLt;omega
theorem Cy(x y c:bv)(a:c.toNat<=1):(QJ 64 ((x.toNat+y.toNat+c.toNat)/18446744073709551616)).toNat<=1:=by
 rw[QL];have:=x.isLt;have:=y.isLt;omega
theorem TV(a b:List bv)(s:a.length=4)(t:b.length=4)(h:bZ a+bZ b<115792089237316195423570985008687907853269984665640564039457584007913129639936):bZ (bT a b 4).1=bZ a+bZ b:=by
 obtain⟨i,j,k,l,rfl⟩:=pd a s;obtain⟨m,n,o,p,rfl⟩:=pd b t;have r:=xA i m 0 dd;have f:=Cy i m 0 dd;simp only[bT,Qd,Qe,Qc,Qa];generalize y:QJ 64 ((i.toNat+m.toNat+(0:bv).toNat)/18446744073709551616)=c at r f|-;have u:=xA j n c f;have g:=Cy j n c f;generalize z:QJ 64 ((j.toNat+n.toNat+c.toNat)/18446744073709551616)=d at u g|-;have v:=xA k o d g;have q:=Cy k o d g;generalize A:QJ 64 ((k.toNat+o.toNat+d.toNat)/18446744073709551616)=e at v q|-;have w:=xA l p e q;generalize QJ 64 ((l.toNat+p.toNat+e.toNat)/18446744073709551616)=x at w;rw[uR]at h|-;rw[uR]at h|-;rw[uR];rw[show (0:bv).toNat=0 from rfl]at r;have:=(l+p+e).isLt;omega
theorem xz(x y b:bv)(a:b.toNat<=1):(x-y-b).toNat+y.toNat+b.toNat=x.toNat+18446744073709551616*(ni x y b).toNat:=by
 rw[QP,QP];have:=x.isLt;have:=y.isLt;unfold ni;split
 .rw[show (1:bv).toNat=1 from rfl];omega
 .rw[show (0:bv).toNat=0 from rfl];omega
theorem TR(a:List bv)(p:a.length=4):bZ (ck a 4).1+be=bZ a+115792089237316195423570985008687907853269984665640564039457584007913129639936*(ck a 4).2.toNat:=by
 obtain⟨d,e,f,o,rfl⟩:=pd a p;have q:(0:bv).toNat<=1:=dd
 have k:=xz d 6346243789798364141 0 q;have h:=yE d 6346243789798364141 0;simp only[ck,Sc_md,Qd,Qe,Qc,Qa];generalize ni d 6346243789798364141 0=b at k h|-;have l:=xz e 1503914060200516822 b h;have i:=yE e 1503914060200516822 b;generalize ni e 1503914060200516822 b=c at l i|-;have m:=xz f 0 c i;have j:=yE f 0 c;generalize ni f 0 c=g at m j|-;have n:=xz o 1152921504606846976 g j;generalize ni o 1152921504606846976 g=r at n|-;rw[uR,uR];rw[show (0:bv).toNat=0 from rfl,show (6346243789798364141:bv).toNat=6346243789798364141 from rfl]at k;rw[show (1503914060200516822:bv).toNat=1503914060200516822 from rfl]at l;rw[show (0:bv).toNat=0 from rfl]at m;rw[show (1152921504606846976:bv).toNat=1152921504606846976 from rfl]at n;unfold be;omega
theorem On(a l:List bv)(b:a.length=4)(c:l.length=4):fy a l (-(0:bv)) 4=l:=by
 obtain⟨d,f,g,h,rfl⟩:=pd a b;obtain⟨i,j,k,m,rfl⟩:=pd l c;have e:∀x y:bv,(x&&&(-(0:bv)))|||(y&&& ~~~(-(0:bv)))=y:=λx y=>by
  rw[show ~~~(-(0:bv))=QN 64 from dd,show -(0:bv)=0 from dd,QM,show x&&&(0:bv)=0 from QR];exact BitVec.zero_or
 simp only[fy,Qd,Qe,Qc,Qa,e]
theorem Re(a l:List bv)(b:a.length=4)(c:l.length=4):fy a l (-(1:bv)) 4=a:=by
 obtain⟨d,f,g,h,rfl⟩:=pd a b;obtain⟨i,j,k,m,rfl⟩:=pd l c;have e:∀x y:bv,(x&&&(-(1:bv)))|||(y&&& ~~~(-(1:bv)))=x:=λx y=>by
  rw[show ~~~(-(1:bv))=0 from dd,show -(1:bv)=QN 64 from dd,QM,show y&&&(0:bv)=0 from QR];exact BitVec.or_zero
 simp only[fy,Qd,Qe,Qc,Qa,e]
theorem Ha(b:bv)(h:b.toNat<=1):b=0\/b=1:=by
 have:b.toNat=0\/b.toNat=1:=oo
 rcases this with h|h
 .left;exact QO h
 .right;exact QO h
theorem Em(a:List bv):bZ a<115792089237316195423570985008687907853269984665640564039457584007913129639936:=by
 unfold bZ;have:=(a.getD 0 0).isLt;have:=(a.getD 1 0).isLt;have:=(a.getD 2 0).isLt;have:=(a.getD 3 0).isLt;omega
theorem KU(a:List bv)(b:a.length=4)(h:bZ a<be+be):iQ (gJ a)/\bZ (gJ a)=bZ a%be:=by
 have c:=TR a b;have f:=Em (ck a 4).1;have g:=Em a;have d:be=7237005577332262213973186563042994240857116359379907606001950938285454250989:=rfl;rcases Ha _ (Do a 4)with h0|h0
 .have e:gJ a=(ck a 4).1:=by unfold gJ;rw[h0];exact On _ _ b (r7 _ _)
  rw[h0,show (0:bv).toNat=0 from rfl]at c;have:bZ (ck a 4).1=bZ a%be:=by
   rw[Nat.mod_eq_sub_mod oo,Qt oo];omega
  rw[e];exact⟨⟨r7 _ _,oo⟩,this⟩
 .have e:gJ a=a:=by unfold gJ;rw[h0];exact Re _ _ b (r7 _ _)
  rw[h0,show (1:bv).toNat=1 from rfl]at c;rw[e];have:bZ a<be:=oo
  exact⟨⟨b,this⟩,(Qt this).symm⟩
theorem tV{a b:List bv}(c:iQ a)(d:iQ b):iQ (dI a b)/\bZ (dI a b)=(bZ a+bZ b)%be:=by
 have g:be=7237005577332262213973186563042994240857116359379907606001950938285454250989:=rfl;have f:=c.2;have h2:=d.2;have e:=TV a b c.1 d.1 oo;have:=KU (bT a b 4).1 (by rw[vP,c.1]) (by rw[e];omega);rw[e]at this;exact this
theorem Oo(a:List bv)(b:a.length=4):iN a 0=[0,0,0,0]:=by
 obtain⟨c,d,f,g,rfl⟩:=pd a b;have e:∀x:bv,x&&&(-(0:bv))=0:=λx=>ss
 simp only[iN,f6,Qd,Qe,Qc,Qa,e]
theorem Rg(a:List bv)(b:a.length=4):iN a 1=a:=by
 obtain⟨c,d,f,g,rfl⟩:=pd a b;have e:∀x:bv,x&&&(-(1:bv))=x:=λx=>by rw[show -(1:bv)=QN 64 from dd,QM]
 simp only[iN,f6,Qd,Qe,Qc,Qa,e]
theorem CA(x:bv):(x&&&1).toNat=x.toNat%2:=by
 rw[BitVec.toNat_and,show (1:bv).toNat=1 from rfl,Nat.and_one_is_mod]
theorem LT(a:List bv)(k:Nat):(kF a k).toNat<=1:=by unfold kF;rw[CA];omega
theorem Cz(a:List bv)(m:a.length=4)(k:Nat)(q:k<256):(kF a k).toNat=bZ a/2^k%2:=by
 obtain⟨b,c,d,f,rfl⟩:=pd a m;have h0:=b.isLt;have o:=c.isLt;have h2:=d.isLt;have p:=f.isLt;unfold kF;rw[CA,BitVec.toNat_ushiftRight,Nat.shiftRight_eq_div_pow,uR];have n:k/64=0\/k/64=1\/k/64=2\/k/64=3:=oo
 have i:k%64<64:=Nat.mod_lt _ dd;have j:∀(x L H e:Nat),L<2^e-> ∀r,r<64->x<2^64->(L+2^e*(x+2^64*H))/2^(e+r)%2=x/2^r%2:=by
  intro x L H e l r s _;rw[Qk,<-Qj,Qg _ _ (Qn e),Qi l,Qx];have:2^64*H=2^r*(2*(2^(63-r)*H)):=by
   rw[<-Qm,<-Qm,<-Qp,<-Qk];congr 2;omega
  rw[this,Qg _ _ (Qn r),Qo]
 rcases n with h|h|h|h
 .rw[h];show b.toNat/2^(k%64)%2=_
  have g:k=0+k%64:=oo
  rw[show b.toNat+18446744073709551616*c.toNat+340282366920938463463374607431768211456*d.toNat+6277101735386680763835789423207666416102355444464034512896*f.toNat=0+2^0*(b.toNat+2^64*(c.toNat+18446744073709551616*d.toNat+340282366920938463463374607431768211456*f.toNat)) by omega];conv=>rhs;rw[g]
  rw[j _ _ _ 0 dd _ i oo]
 .rw[h];show c.toNat/2^(k%64)%2=_
  have g:k=64+k%64:=oo
  rw[show b.toNat+18446744073709551616*c.toNat+340282366920938463463374607431768211456*d.toNat+6277101735386680763835789423207666416102355444464034512896*f.toNat=b.toNat+2^64*(c.toNat+2^64*(d.toNat+18446744073709551616*f.toNat)) by omega];conv=>rhs;rw[g]
  rw[j _ _ _ 64 oo _ i oo]
 .rw[h];show d.toNat/2^(k%64)%2=_
  have g:k=128+k%64:=oo
  rw[show b.toNat+18446744073709551616*c.toNat+340282366920938463463374607431768211456*d.toNat+6277101735386680763835789423207666416102355444464034512896*f.toNat=(b.toNat+18446744073709551616*c.toNat)+2^128*(d.toNat+2^64*f.toNat) by omega];conv=>rhs;rw[g]
  rw[j _ _ _ 128 oo _ i oo]
 .rw[h];show f.toNat/2^(k%64)%2=_
  have g:k=192+k%64:=oo
  rw[show b.toNat+18446744073709551616*c.toNat+340282366920938463463374607431768211456*d.toNat+6277101735386680763835789423207666416102355444464034512896*f.toNat=(b.toNat+18446744073709551616*c.toNat+340282366920938463463374607431768211456*d.toNat)+2^192*(f.toNat+2^64*0) by omega];conv=>rhs;rw[g]
  rw[j _ _ _ 192 oo _ i oo]
theorem Ol(X Y q:Nat):((X%q+X%q)%q+Y)%q=(X+X+Y)%q:=by simp only[Nat.add_mod,Nat.mod_mod]
theorem Cx(n m k:Nat)(a:k<m):n/2^(m-(k+1))=n/2^(m-k)+n/2^(m-k)+n/2^(m-(k+1))%2:=by
 have:n/2^(m-k)=n/2^(m-(k+1))/2:=by
  rw[Qj,<-Qp];congr 2;omega
 rw[this];omega
theorem Rf{a:List bv}(c:iQ a)(b:bv)(d:b.toNat<=1):iQ (iN a b)/\bZ (iN a b)=bZ a*b.toNat:=by
 rcases Ha b d with rfl|rfl
 .rw[Oo a c.1];exact⟨zq,by rw[AQ];simp⟩
 .rw[Rg a c.1];exact⟨c,ss⟩
theorem Bx{a b:List bv}(c:iQ a)(d:b.length=4)(e:bZ b<2^253):∀k,k<=253->iQ (eh a b k)/\bZ (eh a b k)=bZ a*(bZ b/2^(253-k))%be
 |0,_=>⟨zq,by show bZ [0,0,0,0]=_;rw[AQ,Qi e];simp⟩
 |k+1,n=>by
  obtain⟨f,v⟩:=Bx c d e k oo;obtain⟨g,j⟩:=tV f f;obtain⟨h,l⟩:=Rf c (kF b (252-k)) (LT _ _);obtain⟨i,m⟩:=tV g h;refine⟨i,?_⟩;rw[eh,m,j,l,v,Cz b d _ oo,Cx (bZ b) 253 k oo,show 253-(k+1)=252-k by omega,Qq,Qq];generalize bZ a*(bZ b/2^(253-k))=X;generalize bZ a*(bZ b/2^(252-k)%2)=Y;exact Ol X Y be
theorem Om{a b:List bv}(d:iQ a)(c:iQ b):iQ (pP a b)/\bZ (pP a b)=bZ a*bZ b%be:=by
 have h:=c.2;have e:be=7237005577332262213973186563042994240857116359379907606001950938285454250989:=rfl;have:=Bx d c.1 oo 253 oo;rw[Qy,Qz,QA]at this;exact this
def aR:List UInt8->Nat
 | []=>0
 |x::l=>x.toNat+256*aR l
theorem pq:∀s:List UInt8,aR s<2^(8*s.length)
 | []=>by simp[aR]
 |x::l=>by
  have h:=pq l;have:=x.toNat_lt;rw[aR,Qf,Qq,Qk,Nat.mul_comm];generalize 2^(8*l.length)=X at*;omega
theorem vL:∀(s:List UInt8) (k:Nat),k<8*s.length->aR s/2^k%2=(s.getD (k/8) 0).toNat/2^(k%8)%2
 | [],k,h=>by simp at h
 |x::l,k,h=>by
  have b:=x.toNat_lt;rw[aR];by_cases d:k<8
  .rw[show k/8=0 by omega,show k%8=k by omega];show _=x.toNat/2^k%2
   have:256*aR l=2^k*(2*(2^(7-k)*aR l)):=by
    rw[<-Qm,<-Qm,<-Qp,<-Qk,show k.succ+(7-k)=8 by omega]
   rw[this,Qg _ _ (Qn k),Qo]
  .have a:k=8+(k-8):=oo
   have c:=vL l (k-8) (by rw[Qf]at h;omega);rw[show k/8=(k-8)/8+1 by omega,show k%8=(k-8)%8 by omega,Qa,<-c];conv=>lhs;rw[a]
   rw[Qk,<-Qj,show (2:Nat)^8=256 from rfl,Qg _ _ dd,Qi b,Qx]
theorem MC(s:Qu)(k:Nat):iQ [pQ s k,0,0,0]/\bZ [pQ s k,0,0,0]=(s.getD (k/8) 0).toNat/2^(k%8)%2:=by
 have:bZ [pQ s k,0,0,0]=(s.getD (k/8) 0).toNat/2^(k%8)%2:=by
  rw[uR];unfold pQ;rw[QL];simp;omega
 refine⟨⟨rfl,?_⟩,this⟩;rw[this];have a:be=7237005577332262213973186563042994240857116359379907606001950938285454250989:=rfl;omega
theorem F6(s:Qu):∀k,k<=8*s.length->iQ (jl s k)/\bZ (jl s k)=aR s/2^(8*s.length-k)%be
 |0,_=>⟨zq,by show bZ [0,0,0,0]=_;rw[AQ,Nat.sub_zero,Qi (pq s)];simp⟩
 |k+1,h=>by
  obtain⟨f,v⟩:=F6 s k oo;obtain⟨a,d⟩:=tV f f;obtain⟨b,e⟩:=MC s (8*s.length-1-k);obtain⟨c,g⟩:=tV a b;refine⟨c,?_⟩;rw[jl,g,d,e,v,<-vL s _ oo,Cx (aR s) (8*s.length) k oo,show 8*s.length-1-k=8*s.length-(k+1) by omega];generalize aR s/2^(8*s.length-k)=X;generalize aR s/2^(8*s.length-(k+1))%2=Y;exact Ol X Y be
theorem lk(s:Qu):iQ (iX s)/\bZ (iX s)=aR s%be:=by
 have:=F6 s (8*s.length) nR;rw[Qy,Qz,QA]at this;exact this
theorem pu:∀{a b:List UInt8},a.length=b.length->aR a=aR b->a=b
 | [],[],_,_=>rfl
 |x::l,y::m,c,h=>by
  rw[aR,aR]at h;have:=x.toNat_lt;have:=y.toNat_lt;have e:x=y:=UInt8.toNat.inj oo;rw[e,pu (a:=l) (b:=m) (by simpa using c) oo]
end Go.Proofs.YtclpbaokadfhhaaGreatDoor
end
section
open Int renaming add_mul_emod_self_left->Qa,toNat_of_nonneg->Qc,natCast_mul->Qd,emod_nonneg->Qe,ne_of_gt->Qf
open Go.Proofs.YtclpbaokadfhhaaGreatDoor renaming Fd_Good->Qg,Fd_none16->Qi,Gf_S->Qj
open List renaming length_append->Qk
open UInt8 renaming toNat_ofNat'->Qm,ofNat->Qn
namespace Go.Proofs.YtclpbaokadfhhaaGreatDoor
theorem Pd:fZ=((bW:Nat):Int):=rfl
theorem Fc:0<fZ:=by unfold fZ;omega
def lE(z:Int):cC:=ak (z%fZ).toNat
theorem uf{x y:Int}(h:∃k,x+fZ*k=y):lE x=lE y:=by
 obtain⟨k,rfl⟩:=h;unfold lE;rw[Qa]
theorem ro(n:Nat):lE (n:Int)=ak n:=by
 unfold lE;rw[Pd,<-Int.natCast_emod,Int.toNat_natCast,rm]
theorem Ki(z:Int):∃(n:Nat) (k:Int),(n:Int)+fZ*k=z/\lE z=ak n:=by
 have h0:=Qe z (Qf Fc);refine⟨(z%fZ).toNat,z/fZ,?_,rfl⟩;rw[Qc h0];exact Int.emod_add_mul_ediv z fZ
theorem Kk(x y:Int):lE (x+y)=lE x+lE y:=by
 obtain⟨n,k,c,a⟩:=Ki x;obtain⟨m,l,h2,b⟩:=Ki y;rw[a,b,<-jb,<-ro];exact(uf ⟨k+l,by rw[Int.mul_add];omega⟩).symm
theorem Ux(x y:Int):lE (x*y)=lE x*lE y:=by
 obtain⟨n,k,e,c⟩:=Ki x;obtain⟨m,l,h2,d⟩:=Ki y;rw[c,d,<-jC,<-ro];refine(uf ⟨k*m+n*l+k*(fZ*l),?_⟩).symm;rw[<-e,<-h2,Qd];generalize (n:Int)=a;generalize (m:Int)=b;generalize fZ=p;grind
theorem Uw(x y:Int):lE (x-y)=lE x-lE y:=by
 have h:=Kk (x-y) y;rw[Int.sub_add_cancel]at h;rw[h];generalize lE (x-y)=a;generalize lE y=b;grind
def aB(l:List Int):cC:=lE (ct l)
theorem mA(a b:List Int)(c:a.length=16):aB (aJ a b)=aB a+aB b:=by
 unfold aB;rw[uf (R5 a b c),Kk]
theorem kJ(a b:List Int)(c:a.length=16):aB (au a b)=aB a-aB b:=by
 unfold aB;rw[uf (Pb a b c),Uw]
theorem eO(a b:List Int):aB (af a b)=aB a*aB b:=by
 unfold aB;rw[uf (WP a b),Ux]
theorem Kl:ct Qi=0:=dk
theorem R4(n:Int):ct (am n)=n:=by
 unfold am;rw[uU rfl 0 n oo,Kl,show Qi.getD 0 0=0 from rfl];simp
theorem oE(n:Nat):aB (am (n:Int))=ak n:=by unfold aB;rw[R4,ro]
def yU(bits:List Int):Nat->Nat
 |0=>0
 |i+1=>yU bits i+yU bits i+(if bits.getD i 0=1 then 1 else 0)
theorem ue(a b:List Int):∀i,aB (iG a b i)=dD (aB a) (yU b i)
 |0=>by
  show aB (am 1)=1
  have:=oE 1;rw[mw]at this;exact this
 |i+1=>by
  rw[iG,yU];by_cases h:b.getD i 0=1
  .rw[if_pos h,if_pos h,eO,eO,ue a b i,<-mQ];show _=dD (aB a) (yU b i+yU b i)*aB a
   rfl
  .rw[if_neg h,if_neg h,eO,ue a b i,<-mQ,Nat.add_zero]
theorem WN:yU (gr [0,1,0,1,1] 255) 255=57896044618658097711785492504343953926634992332820282019728792003956564819947:=dk
theorem uV(a:List Int):aB (fh a)=oT (aB a):=by
 have b:(gr [0,1,0,1,1] 255).length=255:=by unfold gr;rw[Qk,List.length_replicate];rfl
 unfold fh oA;rw[b,ue,WN];rfl
theorem kN:∀x y:List UInt8,aR (x++y)=aR x+256^x.length*aR y
 | [],y=>by simp[aR]
 |a::x,y=>by
  rw[List.cons_append,aR,aR,kN x y,List.length_cons,Nat.pow_succ,Nat.mul_add];rw[Nat.mul_comm (256^x.length) 256,Nat.mul_assoc];omega
theorem Uy(n:Nat)(h:n<=65535):aR (dj n 2)=n:=by
 have e:dj n 2=[Qn (n/256^0%256),Qn (n/256^1%256)]:=rfl;rw[e,aR,aR,aR,Qm,Qm];omega
theorem Gx{a:List Int}(h:Fd_Norm a):∀k,((aR (mS a k):Nat):Int)=ch (λi=>a.getD i 0) k
 |0=>rfl
 |k+1=>by
  have b:=h.2 k;rw[mS,kN,uH,Uy _ oo,ch,<-Gx h k,Int.natCast_add,Qd];have c:((256^(2*k):Nat):Int)=65536^k:=by rw[Nat.pow_mul,Int.natCast_pow];rfl
  rw[Qc b.1,c]
theorem Uu(z:Int):((cI (lE z):Nat):Int)=z%fZ:=by
 have h0:=Qe z (Qf Fc);have a:=Int.emod_lt_of_pos z Fc;unfold lE;rw[tD,Nat.mod_eq_of_lt (by rw[Pd]at h0 a|-;omega),Qc h0]
theorem nO{a:List Int}(b:a.length=16)(i:Fd_Bd 1125899906842624 a):aR (bF a)=cI (aB a):=by
 have c:=DL a b i;have d:=DJ _ c;have e:=Gx (wl _ (wl _ d)) 16;have f:=MQ d;obtain⟨k,j⟩:=th a b;obtain⟨m,l⟩:=th (bO a) c.1;have g:ct (bO (bO a))%fZ=ct a%fZ:=by
  rw[<-j,<-l,Qa,Qa]
 have h:=Uu (ct a);have n:((aR (bF a):Nat):Int)=((cI (aB a):Nat):Int):=by
  unfold bF;rw[e];show ct (nA (nA (bO (bO a))))=_
  rw[f,g,<-h];rfl
 omega
theorem Ut{a b:List Int}(e:a.length=16)(c:Fd_Bd 1125899906842624 a)(f:b.length=16)(d:Fd_Bd 1125899906842624 b):bF a=bF b↔aB a=aB b:=by
 constructor
 .intro h;exact tE (by rw[<-nO e c,<-nO f d,h])
 .intro h;exact pu (by rw[iE,iE]) (by rw[nO e c,nO f d,h])
structure Rp_Pn where
 x:List Int
 y:List Int
 z:List Int
 t:List Int
def bc(p:Rp_Pn):List Int:=p.x++p.y++p.z++p.t
def Rp_Fine(p:Rp_Pn):Prop:=Qg p.x/\Qg p.y/\Qg p.z/\Qg p.t
theorem Rp_Fine.row{p:Rp_Pn}(h:Rp_Fine p):(bc p).length=64:=by
 unfold bc;rw[Qk,Qk,Qk,h.1.1,h.2.1.1,h.2.2.1.1,h.2.2.2.1]
def CJ(p q:Rp_Pn):=af (au p.y p.x) (au q.y q.x)
def CI(p q:Rp_Pn):=af (aJ p.y p.x) (aJ q.y q.x)
def CG(p q:Rp_Pn)(tw:List Int):=af (af p.t tw) q.t
def CF(p q:Rp_Pn):=aJ (af p.z q.z) (af p.z q.z)
def yK(p q:Rp_Pn):=au (CI p q) (CJ p q)
def yJ(p q:Rp_Pn)(tw:List Int):=au (CF p q) (CG p q tw)
def yI(p q:Rp_Pn)(tw:List Int):=aJ (CF p q) (CG p q tw)
def yH(p q:Rp_Pn):=aJ (CI p q) (CJ p q)
def iO(p q:Rp_Pn)(tw:List Int):Rp_Pn:=⟨af (yK p q) (yJ p q tw),af (yI p q tw) (yH p q),af (yJ p q tw) (yI p q tw),af (yK p q) (yH p q)⟩
theorem Hd(p q:Rp_Pn)(a:List Int):(iO p q a).x=af (yK p q) (yJ p q a):=by unfold iO;dsimp only
theorem Hc(p q:Rp_Pn)(a:List Int):(iO p q a).y=af (yI p q a) (yH p q):=by unfold iO;dsimp only
theorem Hb(p q:Rp_Pn)(a:List Int):(iO p q a).z=af (yJ p q a) (yI p q a):=by unfold iO;dsimp only
theorem He(p q:Rp_Pn)(a:List Int):(iO p q a).t=af (yK p q) (yH p q):=by unfold iO;dsimp only
theorem Hf{p q:Rp_Pn}{e:List Int}(k:Rp_Fine p)(l:Rp_Fine q)(ht:Qg e):Qg (CJ p q)/\Qg (CI p q)/\Qg (CG p q e)/\Qg (CF p q)/\Qg (yK p q)/\Qg (yJ p q e)/\Qg (yI p q e)/\Qg (yH p q):=by
 obtain⟨g,h,m,n⟩:=k;obtain⟨i,j,o,r⟩:=l;have a:=aA _ _ (bl _ _ h g) (bl _ _ j i);have b:=aA _ _ (cD _ _ h g) (cD _ _ j i);have c:=aA _ _ (aA _ _ n ht) r;have f:=aA _ _ m o;have d:=cD _ _ f f;unfold yK yJ yI yH CJ CI CG CF;exact⟨a,b,c,d,bl _ _ b a,bl _ _ d c,cD _ _ d c,cD _ _ b a⟩
theorem oC{p q:Rp_Pn}{a:List Int}(b:Rp_Fine p)(c:Rp_Fine q)(ht:Qg a):Rp_Fine (iO p q a):=by
 obtain⟨_,_,_,_,e,f,g,h⟩:=Hf b c ht;unfold Rp_Fine;rw[Hd,Hc,Hb,He];exact⟨aA _ _ e f,aA _ _ g h,aA _ _ f g,aA _ _ e h⟩
def Rp_Is(a:Rp_Pn)(p:jc):Prop:=Rp_Fine a/\Ed_Rep4 Gf_S (aB a.x) (aB a.y) (aB a.z) (aB a.t) p
theorem Rp_Is.sum{a b:Rp_Pn}{p q:jc}{c:List Int}(d:Rp_Is a p)(e:Rp_Is b q)(ht:Qg c)(i:aB c=Qj.d+Qj.d):Rp_Is (iO a b c) (dO Gf_S p q):=by
 refine⟨oC d.1 e.1 ht,?_⟩;obtain⟨j,f,k,g,l,m,n,o⟩:=Hf d.1 e.1 ht;have h:=Ed_Rep4.add Gf_S d.2 e.2 (aB (CJ a b)) (aB (CI a b)) (aB (CG a b c)) (aB (CF a b)) (aB (yK a b)) (aB (yJ a b c)) (aB (yI a b c)) (aB (yH a b)) (aB c) i
  (by unfold CJ;rw[eO,kJ _ _ d.1.2.1.1,kJ _ _ e.1.2.1.1]) (by unfold CI;rw[eO,mA _ _ d.1.2.1.1,mA _ _ e.1.2.1.1]) (by unfold CG;rw[eO,eO])
  (by unfold CF;rw[mA _ _ (Pc _ _),eO]) (by unfold yK;rw[kJ _ _ f.1]) (by unfold yJ;rw[kJ _ _ g.1]) (by unfold yI;rw[mA _ _ g.1]) (by unfold yH;rw[mA _ _ f.1])
 rw[Hd,Hc,Hb,He,eO,eO,eO,eO];exact h
def su:Rp_Pn:=⟨am 0,am 1,am 1,am 0⟩
theorem CE:aB (am 0)=0:=by
 have:=oE 0;rw[kH]at this;exact this
theorem Et:aB (am 1)=1:=by
 have:=oE 1;rw[mw]at this;exact this
theorem f8:Qg (am 0):=oa 0 oo oo
theorem lm:Qg (am 1):=oa 1 oo oo
theorem Rp_Is.start:Rp_Is su (nC Gf_S):=by
 refine⟨⟨f8,lm,lm,f8⟩,?_⟩;show Ed_Rep4 Gf_S (aB (am 0)) (aB (am 1)) (aB (am 1)) (aB (am 0)) _
 rw[CE,Et];exact Ed_Rep4.zero Gf_S
def gY(f:Nat->Bool)(p:Rp_Pn)(tw:List Int)(m:Nat):Nat->Rp_Pn
 |0=>su
 |k+1=>if f (m-1-k)then iO (iO (gY f p tw m k) (gY f p tw m k) tw) p tw else iO (gY f p tw m k) (gY f p tw m k) tw
theorem Gd{f:Nat->Bool}{p:Rp_Pn}{P:jc}{b:List Int}(l:Rp_Is p P)(ht:Qg b)(a:aB b=Qj.d+Qj.d)(n m:Nat)(j:n<2^m)(h:∀i,i<m->f i=(n/2^i%2==1)):
  ∀k,k<=m->Rp_Is (gY f p b m k) (cm Gf_S (n/2^(m-k)) P)
 |0,_=>by rw[Nat.sub_zero,Nat.div_eq_of_lt j];exact Rp_Is.start
 |k+1,r=>by
  have q:=Gd l ht a n m j h k oo;have h2:=Rp_Is.sum q q ht a;rw[tj]at h2;have d:=Rp_Is.sum h2 l ht a;rw[Ba]at d;have o:=Cx n m k oo;have g:=h (m-1-k) oo;rw[show m-1-k=m-(k+1) by omega]at g;rw[gY,show m-1-k=m-(k+1) by omega,g];by_cases e:n/2^(m-(k+1))%2=1
  .rw[if_pos (by simp[e]),o,e,show∀x:Nat,x+x+1=2*x+1 by omega];exact d
  .have c:n/2^(m-(k+1))%2=0:=oo
   rw[if_neg (by simp[c]),o,c,show∀x:Nat,x+x+0=2*x by omega];exact h2
def iR(a b:Int):List Int:=(Qi.set 0 a).set 1 b
def fA:List Int:=af (au (am 0) (iR 56129 1)) (fh (iR 56130 1))
theorem sy(a b:Int)(e:0<=a/\a<=65535)(h2:0<=b/\b<=65535):Qg (iR a b):=⟨rfl,λi=>by
 unfold iR;by_cases d:1=i
 .subst d;rw[dF _ _ _ (by rw[List.length_set];decide)];omega
 .rw[jg _ _ _ _ d];by_cases c:0=i
  .subst c;rw[dF _ _ _ dd];omega
  .rw[jg _ _ _ _ c];have:=pE 16 i;unfold Qi;rw[this];omega⟩
theorem CK(a b:Int):ct (iR a b)=a+65536*b:=by
 unfold iR;rw[uU (by rfl) 1 _ oo,uU rfl 0 _ oo,Kl,jg _ _ _ _ oo,show Qi.getD 0 0=0 from rfl,show Qi.getD 1 0=0 from rfl];omega
theorem fe:Qg fA:=aA _ _ (bl _ _ f8 (sy _ _ oo oo)) (j8 _ (sy _ _ oo oo))
theorem Ev:aB fA=Qj.d:=by
 have c:aB (iR 56129 1)=ak 121665:=by
  unfold aB;rw[CK];exact ro 121665
 have f:aB (iR 56130 1)=ak 121666:=by
  unfold aB;rw[CK];exact ro 121666
 unfold fA;rw[eO,kJ _ _ rfl,uV,CE,c,f];have h0:ak 121666≠0:=λe=>by
  have:ak 121666=ak 0:=e;rw[gQ]at this;exact absurd this dk
 have b:=tH _ h0;have a:ak kV*ak 121666+ak 121665=0:=by
  rw[<-jC,<-jb,<-kH,gQ];decide+kernel
 show(0-ak 121665)*oT (ak 121666)=ak kV
 generalize ak 121666=x at b a|-;generalize oT x=y at b|-;generalize ak 121665=u at a|-;generalize ak kV=d at a|-;grind
def fH:List Int:=aJ fA fA
theorem n8:Qg fH:=cD _ _ fe fe
theorem Gb:aB fH=Qj.d+Qj.d:=by unfold fH;rw[mA _ _ fe.1,Ev]
end Go.Proofs.YtclpbaokadfhhaaGreatDoor
end
section
open Bool renaming not_false->Qa,false_and->Qc,and_false->Qd,true_and->Qe,false_or->Qf,and_true->Qg,or_false->Qi,not_true->Qj,or_self->Qk
open BitVec renaming getLsbD_ushiftRight->Qm,getLsbD_shiftLeft->Qn,eq_of_getLsbD_eq->Qo,getLsbD_and->Qp,eq_of_toNat_eq->Qq,getLsbD_or->Qt,getLsbD_ofNat->Qx,testBit_toNat->Qy
open Go.Proofs.YtclpbaokadfhhaaGreatDoor renaming Ff_M51->Qz
open List renaming getD_cons_zero->QA,getD_cons_succ->QB,getD->QC
open Nat renaming testBit_two_pow_sub_one->QD
namespace Go.Proofs.YtclpbaokadfhhaaGreatDoor
def al(a:List av):cC:=ak (bo a)
theorem xI{a b:Nat}(h:Ff_Cg a b):ak a=ak b:=gQ.2 h
theorem pD{a b:List av}(d:aD a)(e:aD b):aD (aI a b)/\al (aI a b)=al a+al b:=by
 obtain⟨c,h2⟩:=RN a b d e;refine⟨c.small,?_⟩;unfold al;rw[xI h2,jb]
theorem pR{a b:List av}(d:aD a)(e:aD b):aD (aL a b)/\al (aL a b)=al a-al b:=by
 obtain⟨c,h2⟩:=O4 a b d e;refine⟨c.small,?_⟩;unfold al;exact yQ h2
theorem bG{a b:List av}(d:aD a)(e:aD b):aD (aa a b)/\al (aa a b)=al a*al b:=by
 obtain⟨c,h2⟩:=nY a b d e;refine⟨c.small,?_⟩;unfold al;rw[xI h2,jC]
theorem us{a:List av}(d:aD a):aD (bN a)/\al (bN a)=oT (al a):=by
 obtain⟨e,b⟩:∃e,e+2=qG:=⟨57896044618658097711785492504343953926634992332820282019728792003956564819947,rfl⟩
 obtain⟨c,h2⟩:=Ld a d e b;refine⟨c.small,?_⟩;unfold al;rw[xI h2];exact Uj _ _ b
theorem oW{a:List av}(b:aD a):bo (aW a)=cI (al a):=by
 have:=(pi a (b.mono oo)).2;rw[this];rfl
theorem WC{a b:List av}(c:Ff_Sm 2251799813685248 a)(d:Ff_Sm 2251799813685248 b)(h:bo a=bo b):a=b:=by
 obtain⟨e,f,g,i,j,rfl⟩:=bH a c.1;obtain⟨k,l,m,n,o,rfl⟩:=bH b d.1;have u:=c.2 0 oo;have v:=c.2 1 oo;have w:=c.2 2 oo;have x:=c.2 3 oo;have y:=c.2 4 oo;have z:=d.2 0 oo;have A:=d.2 1 oo;have B:=d.2 2 oo;have C:=d.2 3 oo;have D:=d.2 4 oo;simp only[QA,QB]at u v w x y z A B C D;simp only[bo,QA,QB]at h;have p:e.toNat=k.toNat:=oo
 have q:f.toNat=l.toNat:=oo
 have r:g.toNat=m.toNat:=oo
 have s:i.toNat=n.toNat:=oo
 have t:j.toNat=o.toNat:=oo
 rw[Qq p,Qq q,Qq r,Qq s,Qq t]
theorem zH{a b:List av}(c:aD a)(d:aD b)(h:al a=al b):aW a=aW b:=
 WC (pi a (c.mono oo)).1 (pi b (d.mono oo)).1 (by rw[oW c,oW d,h])
theorem MP(y:av)(k m:Nat):(bw ((y>>>k).toNat.toUInt8)).getLsbD m=(decide (m<8)&&y.getLsbD (k+m)):=by
 unfold bw;have e:((y>>>k).toNat.toUInt8).toNat=(y>>>k).toNat%2^8:=ss
 rw[e,Qx,Nat.testBit_mod_two_pow,Qy,Qm];by_cases h:m<8
 .simp[h,show m<64 by omega]
 .simp[h]
theorem WL(i:Nat):BitVec.getLsbD (0:av) i=false:=BitVec.getLsbD_zero
theorem OZ(y:av):(((((((((0:av)|||(bw ((y>>>(0:Nat)).toNat.toUInt8)<<<(0:Nat)))|||(bw ((y>>>8).toNat.toUInt8)<<<8))|||(bw ((y>>>16).toNat.toUInt8)<<<16))|||(bw ((y>>>24).toNat.toUInt8)<<<24))|||(bw ((y>>>32).toNat.toUInt8)<<<32))|||(bw ((y>>>40).toNat.toUInt8)<<<40))|||(bw ((y>>>48).toNat.toUInt8)<<<48))|||(bw ((y>>>56).toNat.toUInt8)<<<56))=y:=by
 apply Qo
 intro i b;simp only[Qt,Qn,MP,WL];obtain⟨q,r,a,c,rfl⟩:∃q r,q<8/\r<8/\i=8*q+r:=⟨i/8,i%8,oo,oo,oo⟩
 match q,a with
 |0,_=>simp only[show¬(8*0+r<0) by omega,show 8*0+r-0<8 by omega,show 0+(8*0+r-0)=8*0+r by omega,show 8*0+r<8 by omega,show 8*0+r<16 by omega,show 8*0+r<24 by omega,show 8*0+r<32 by omega,show 8*0+r<40 by omega,show 8*0+r<48 by omega,show 8*0+r<56 by omega,show 8*0+r<64 by omega,decide_true,decide_false,Qc,Qd,Qe,Qg,Qj,Qa,Qi,Qf]
 |1,_=>simp only[show¬(8*1+r<0) by omega,show¬(8*1+r-0<8) by omega,show¬(8*1+r<8) by omega,show 8*1+r-8<8 by omega,show 8+(8*1+r-8)=8*1+r by omega,show 8*1+r<16 by omega,show 8*1+r<24 by omega,show 8*1+r<32 by omega,show 8*1+r<40 by omega,show 8*1+r<48 by omega,show 8*1+r<56 by omega,show 8*1+r<64 by omega,decide_true,decide_false,Qc,Qd,Qe,Qg,Qj,Qa,Qi,Qf,Qk]
 |2,_=>simp only[show¬(8*2+r<0) by omega,show¬(8*2+r-0<8) by omega,show¬(8*2+r<8) by omega,show¬(8*2+r-8<8) by omega,show¬(8*2+r<16) by omega,show 8*2+r-16<8 by omega,show 16+(8*2+r-16)=8*2+r by omega,show 8*2+r<24 by omega,show 8*2+r<32 by omega,show 8*2+r<40 by omega,show 8*2+r<48 by omega,show 8*2+r<56 by omega,show 8*2+r<64 by omega,decide_true,decide_false,Qc,Qd,Qe,Qg,Qj,Qa,Qi,Qf,Qk]
 |3,_=>simp only[show¬(8*3+r<0) by omega,show¬(8*3+r-0<8) by omega,show¬(8*3+r<8) by omega,show¬(8*3+r-8<8) by omega,show¬(8*3+r<16) by omega,show¬(8*3+r-16<8) by omega,show¬(8*3+r<24) by omega,show 8*3+r-24<8 by omega,show 24+(8*3+r-24)=8*3+r by omega,show 8*3+r<32 by omega,show 8*3+r<40 by omega,show 8*3+r<48 by omega,show 8*3+r<56 by omega,show 8*3+r<64 by omega,decide_true,decide_false,Qc,Qd,Qe,Qg,Qj,Qa,Qi,Qf,Qk]
 |4,_=>simp only[show¬(8*4+r<0) by omega,show¬(8*4+r-0<8) by omega,show¬(8*4+r<8) by omega,show¬(8*4+r-8<8) by omega,show¬(8*4+r<16) by omega,show¬(8*4+r-16<8) by omega,show¬(8*4+r<24) by omega,show¬(8*4+r-24<8) by omega,show¬(8*4+r<32) by omega,show 8*4+r-32<8 by omega,show 32+(8*4+r-32)=8*4+r by omega,show 8*4+r<40 by omega,show 8*4+r<48 by omega,show 8*4+r<56 by omega,show 8*4+r<64 by omega,decide_true,decide_false,Qc,Qd,Qe,Qg,Qj,Qa,Qi,Qf,Qk]
 |5,_=>simp only[show¬(8*5+r<0) by omega,show¬(8*5+r-0<8) by omega,show¬(8*5+r<8) by omega,show¬(8*5+r-8<8) by omega,show¬(8*5+r<16) by omega,show¬(8*5+r-16<8) by omega,show¬(8*5+r<24) by omega,show¬(8*5+r-24<8) by omega,show¬(8*5+r<32) by omega,show¬(8*5+r-32<8) by omega,show¬(8*5+r<40) by omega,show 8*5+r-40<8 by omega,show 40+(8*5+r-40)=8*5+r by omega,show 8*5+r<48 by omega,show 8*5+r<56 by omega,show 8*5+r<64 by omega,decide_true,decide_false,Qc,Qd,Qe,Qg,Qj,Qa,Qi,Qf,Qk]
 |6,_=>simp only[show¬(8*6+r<0) by omega,show¬(8*6+r-0<8) by omega,show¬(8*6+r<8) by omega,show¬(8*6+r-8<8) by omega,show¬(8*6+r<16) by omega,show¬(8*6+r-16<8) by omega,show¬(8*6+r<24) by omega,show¬(8*6+r-24<8) by omega,show¬(8*6+r<32) by omega,show¬(8*6+r-32<8) by omega,show¬(8*6+r<40) by omega,show¬(8*6+r-40<8) by omega,show¬(8*6+r<48) by omega,show 8*6+r-48<8 by omega,show 48+(8*6+r-48)=8*6+r by omega,show 8*6+r<56 by omega,show 8*6+r<64 by omega,decide_true,decide_false,Qc,Qd,Qe,Qg,Qj,Qa,Qi,Qf,Qk]
 |7,_=>simp only[show¬(8*7+r<0) by omega,show¬(8*7+r-0<8) by omega,show¬(8*7+r<8) by omega,show¬(8*7+r-8<8) by omega,show¬(8*7+r<16) by omega,show¬(8*7+r-16<8) by omega,show¬(8*7+r<24) by omega,show¬(8*7+r-24<8) by omega,show¬(8*7+r<32) by omega,show¬(8*7+r-32<8) by omega,show¬(8*7+r<40) by omega,show¬(8*7+r-40<8) by omega,show¬(8*7+r<48) by omega,show¬(8*7+r-48<8) by omega,show¬(8*7+r<56) by omega,show 8*7+r-56<8 by omega,show 56+(8*7+r-56)=8*7+r by omega,show 8*7+r<64 by omega,decide_true,decide_false,Qc,Qd,Qe,Qg,Qa,Qf,Qk]
theorem vZ(i:Nat):Qz.getLsbD i=decide (i<51):=by
 have e:Qz=BitVec.ofNat 64 (2^51-1):=dd
 rw[e,Qx,QD];by_cases h:i<51
 .simp[h,show i<64 by omega]
 .simp[h]
theorem oD{x:av}(h:x.toNat<2251799813685248){i:Nat}(a:51<=i):x.getLsbD i=false:=by
 rw[<-Qy];apply Nat.testBit_lt_two_pow
 have:2^51<=2^i:=Nat.pow_le_pow_right oo a;omega
def dc(f:Nat->UInt8)(j:Nat):av:=(((((((((0:av)|||(bw (f j)<<<(0:Nat)))|||(bw (f (j+1))<<<8))|||(bw (f (j+2))<<<16))|||(bw (f (j+3))<<<24))|||(bw (f (j+4))<<<32))|||(bw (f (j+5))<<<40))|||(bw (f (j+6))<<<48))|||(bw (f (j+7))<<<56))
theorem rJ(f:Nat->UInt8):cS f 32=[dc f 0,dc f 8,dc f 16,dc f 24]:=by
 have c:cS f 8=[dc f 0,0,0,0]:=rfl;have a:cS f 16=[dc f 0,dc f 8,0,0]:=by
  simp only[cS]at c|-;simp only[c];rfl
 have b:cS f 24=[dc f 0,dc f 8,dc f 16,0]:=by
  simp only[cS]at a|-;simp only[a];rfl
 simp only[cS]at b|-;simp only[b];rfl
theorem ut(l:List av):∀k i:Nat,k<=32->i<k->(br l k).getD i 0=qS l i
 |k+1,i,c,b=>by
  rw[br];have a:=mJ l k;by_cases h:i=k
  .subst h;simp[QC,a,show i<32 by omega]
  .have:=ut l k i oo oo;rw[<-this];simp[QC,List.getElem?_set_ne (Ne.symm h)]
theorem Lc(l:List av)(g:Nat->UInt8)(q:Nat)(h:∀i,i<8->g (8*q+i)=qS l (8*q+i)):dc g (8*q)=l.getD q 0:=by
 have h0:=h 0 oo;have a:=h 1 oo;have h2:=h 2 oo;have b:=h 3 oo;have c:=h 4 oo;have d:=h 5 oo;have e:=h 6 oo;have f:=h 7 oo;unfold qS at h0 a h2 b c d e f;rw[show (8*q+0)/8=q by omega,show (8*q+0)%8*8=0 by omega]at h0;rw[show (8*q+1)/8=q by omega,show (8*q+1)%8*8=8 by omega]at a;rw[show (8*q+2)/8=q by omega,show (8*q+2)%8*8=16 by omega]at h2;rw[show (8*q+3)/8=q by omega,show (8*q+3)%8*8=24 by omega]at b;rw[show (8*q+4)/8=q by omega,show (8*q+4)%8*8=32 by omega]at c;rw[show (8*q+5)/8=q by omega,show (8*q+5)%8*8=40 by omega]at d;rw[show (8*q+6)/8=q by omega,show (8*q+6)%8*8=48 by omega]at e;rw[show (8*q+7)/8=q by omega,show (8*q+7)%8*8=56 by omega]at f;rw[Nat.add_zero]at h0;unfold dc;rw[h0,a,h2,b,c,d,e,f];exact OZ _
theorem DE(l:List av)(k:l.length=4):cS (λi=>(br l 32).getD i 0) 32=l:=by
 have e:∀q,q<4->dc (λi=>(br l 32).getD i 0) (8*q)=l.getD q 0:=λq n=>Lc l _ q λi m=>ut l 32 _ oo oo
 rw[rJ];have f:=e 0 oo;have g:=e 1 oo;have h:=e 2 oo;have j:=e 3 oo;rw[f,g,h,j];obtain⟨a,b,c,d,rfl⟩:=Zg l k;rfl
theorem zF{x y z:av}(g:z.toNat<2251799813685248)(a b:Nat)(h:∀i,i<51->i<b->x.getLsbD (a+i)=z.getLsbD i)(h2:∀i,i<51->b<=i->x.getLsbD (a+i)=false)(e:∀i,i<51->b<=i->y.getLsbD (i-b)=z.getLsbD i):((x>>>a)|||(y<<<b))&&&Qz=z:=by
 apply Qo
 intro i f;rw[Qp,Qt,Qm,Qn,vZ];by_cases c:i<51
 .by_cases d:i<b
  .rw[h i c d];simp[c,d]
  .rw[h2 i c oo,e i c oo];simp[c,d,f]
 .rw[oD g oo];simp[c]
theorem ph(x y:av)(s t j:Nat):((x>>>s)|||(y<<<t)).getLsbD j=(x.getLsbD (s+j)||(decide (j<64)&& !decide (j<t)&&y.getLsbD (j-t))):=by
 rw[Qt,Qm,Qn]
theorem EQ{e a c d f:av}(h0:e.toNat<2251799813685248)(h:a.toNat<2251799813685248)(h2:c.toNat<2251799813685248)(j:d.toNat<2251799813685248)(l:f.toNat<2251799813685248):
  uG (nW [e,a,c,d,f])=[e,a,c,d,f]:=by
 have k:e|||(a<<<51)=(e>>>(0:Nat))|||(a<<<51):=ss
 have n:(e|||(a<<<51))&&&Qz=e:=by
  apply Qo
  intro i m;rw[Qp,Qt,Qn,vZ];by_cases b:i<51
  .simp[b]
  .rw[oD h0 oo];simp[b]
 have o:(((e|||(a<<<51))>>>51)|||(((a>>>13)|||(c<<<38))<<<13))&&&Qz=a:=by
  rw[k];refine zF h 51 13 (λi b g=>?_) (λi b g=>?_) (λi b g=>?_)
  .rw[ph,oD h0 oo,show 51+i-51=i by omega];simp[show 51+i<64 by omega]
  .rw[ph,oD h0 oo];simp[show¬(51+i<64) by omega]
  .rw[ph,show 13+(i-13)=i by omega];simp[show i-13<38 by omega]
 have p:((((a>>>13)|||(c<<<38))>>>38)|||(((c>>>26)|||(d<<<25))<<<26))&&&Qz=c:=by
  refine zF h2 38 26 (λi b g=>?_) (λi b g=>?_) (λi b g=>?_)
  .rw[ph,oD h oo,show 38+i-38=i by omega];simp[show 38+i<64 by omega]
  .rw[ph,oD h oo];simp[show¬(38+i<64) by omega]
  .rw[ph,show 26+(i-26)=i by omega];simp[show i-26<25 by omega]
 have q:((((c>>>26)|||(d<<<25))>>>25)|||(((d>>>39)|||(f<<<12))<<<39))&&&Qz=d:=by
  refine zF j 25 39 (λi b g=>?_) (λi b g=>?_) (λi b g=>?_)
  .rw[ph,oD h2 oo,show 25+i-25=i by omega];simp[show 25+i<64 by omega]
  .rw[ph,oD h2 oo];simp[show¬(25+i<64) by omega]
  .rw[ph,show 39+(i-39)=i by omega];simp[show i-39<12 by omega]
 have r:(((d>>>39)|||(f<<<12))>>>12)&&&Qz=f:=by
  apply Qo
  intro i m;rw[Qp,Qm,ph,vZ];by_cases b:i<51
  .rw[oD j oo,show 12+i-12=i by omega];simp[b,show 12+i<64 by omega]
  .rw[oD l (i:=i) oo];simp[b]
 show [(e|||(a<<<51))&&&Qz,(((e|||(a<<<51))>>>51)|||(((a>>>13)|||(c<<<38))<<<13))&&&Qz,((((a>>>13)|||(c<<<38))>>>38)|||(((c>>>26)|||(d<<<25))<<<26))&&&Qz,((((c>>>26)|||(d<<<25))>>>25)|||(((d>>>39)|||(f<<<12))<<<39))&&&Qz,(((d>>>39)|||(f<<<12))>>>12)&&&Qz]=[e,a,c,d,f]
 rw[n,o,p,q,r]
theorem RO{a:List av}(d:aD a):al (ej (fv a))=al a:=by
 have c:=(pi a (d.mono oo)).1;have e:=oW d;unfold fv ej;generalize aW a=b at c e;rw[DE (nW b) rfl];obtain⟨k,l,m,n,o,rfl⟩:=bH b c.1;have f:=c.2 0 oo;have g:=c.2 1 oo;have h:=c.2 2 oo;have i:=c.2 3 oo;have j:=c.2 4 oo;simp only[QA,QB]at f g h i j;rw[EQ f g h i j];show ak (bo [k,l,m,n,o])=al a
 rw[e,tF]
theorem Mk(x:UInt8)(m:Nat)(a:m<7):(bw x).getLsbD m=(bw (x&&&127)).getLsbD m:=by
 unfold bw;rw[Qx,Qx,UInt8.toNat_and,Nat.testBit_and,show (127:UInt8).toNat=2^7-1 from rfl,QD];simp[a]
theorem Up(f g:Nat->UInt8)(h:∀i,i<31->f i=g i)(o:f 31&&&127=g 31&&&127):uG (cS f 32)=uG (cS g 32):=by
 rw[rJ,rJ];have e:∀j,j<24->dc f j=dc g j:=by
  intro j t;unfold dc;rw[h j oo,h (j+1) oo,h (j+2) oo,h (j+3) oo,h (j+4) oo,h (j+5) oo,h (j+6) oo,h (j+7) oo]
 have d:∀m,m<63->(dc f 24).getLsbD m=(dc g 24).getLsbD m:=by
  intro m u;unfold dc;rw[h 24 oo,h (24+1) oo,h (24+2) oo,h (24+3) oo,h (24+4) oo,h (24+5) oo,h (24+6) oo];rw[Qt,Qt (y:=bw (g (24+7))<<<56),Qn,Qn];by_cases p:m<56
  .simp[p]
  .rw[Mk (f (24+7)) (m-56) oo,Mk (g (24+7)) (m-56) oo,show f (24+7)&&&127=g (24+7)&&&127 from o]
 rw[e 0 oo,e 8 oo,e 16 oo];generalize dc f 24=a at d;generalize dc g 24=b at d;generalize dc g 0=k;generalize dc g 8=l;generalize dc g 16=c;have r:((c>>>25)|||(a<<<39))&&&Qz=((c>>>25)|||(b<<<39))&&&Qz:=by
  apply Qo
  intro i q;rw[Qp,Qp,ph,ph,vZ];by_cases n:i<51
  .rw[d (i-39) oo]
  .simp[n]
 have s:(a>>>12)&&&Qz=(b>>>12)&&&Qz:=by
  apply Qo
  intro i q;rw[Qp,Qp,Qm,Qm,vZ];by_cases n:i<51
  .rw[d (12+i) oo]
  .simp[n]
 show [k&&&Qz,((k>>>51)|||(l<<<13))&&&Qz,((l>>>38)|||(c<<<26))&&&Qz,((c>>>25)|||(a<<<39))&&&Qz,(a>>>12)&&&Qz]=[k&&&Qz,((k>>>51)|||(l<<<13))&&&Qz,((l>>>38)|||(c<<<26))&&&Qz,((c>>>25)|||(b<<<39))&&&Qz,(b>>>12)&&&Qz]
 rw[r,s]
theorem tg(l:Qu):aD (ej l):=by
 refine⟨rfl,?_⟩;have h:∀x:BitVec 64,(x&&&Qz).toNat<4503599627370496:=by
  intro x;rw[rn];omega
 intro k a;match k,a with
 |0,_=>exact h _
 |1,_=>exact h _
 |2,_=>exact h _
 |3,_=>exact h _
 |4,_=>exact h _
end Go.Proofs.YtclpbaokadfhhaaGreatDoor
end
section
namespace Go.Proofs.YtclpbaokadfhhaaGreatDoor
def Cq(a b:cC):cC:=((a+b)*(a+b))*((a-b)*(a-b))
def Cp(a b:cC):cC:=((a+b)*(a+b)-(a-b)*(a-b))*((a+b)*(a+b)+((a+b)*(a+b)-(a-b)*(a-b))*ak 121665)
def Co(a b c d:cC):cC:=((c-d)*(a+b)+(c+d)*(a-b))*((c-d)*(a+b)+(c+d)*(a-b))
def Cn(u a b c d:cC):cC:=u*(((c-d)*(a+b)-(c+d)*(a-b))*((c-d)*(a+b)-(c+d)*(a-b)))
structure Wk_St where
 a:cC
 b:cC
 c:cC
 d:cC
def Wk_St.swap(s:Wk_St)(t:Bool):Wk_St:=if t then⟨s.c,s.d,s.a,s.b⟩else s
def Wk_St.step(u:cC)(s:Wk_St):Wk_St:=⟨Cq s.a s.b,Cp s.a s.b,Co s.a s.b s.c s.d,Cn u s.a s.b s.c s.d⟩
def Wk_St.by(u:cC)(s:Wk_St)(t:Bool):Wk_St:=((s.swap t).step u).swap t
def xT(u:cC)(s:Wk_St):List Bool->Wk_St
 | []=>s
 |t::r=>xT u (s.by u t) r
theorem yj(u:cC):∀(x y:List Bool) (s:Wk_St),xT u s (x++y)=xT u (xT u s x) y
 | [],y,s=>rfl
 |t::r,y,s=>by simp only[List.cons_append,xT];exact yj u r y _
def Cm(u:cC):Wk_St:=⟨1,0,u,1⟩
open Go.RowKit
def Lad.st(s:Lad):Wk_St:=⟨al s.a,al s.b,al s.c,al s.d⟩
def Lad.small(s:Lad):Prop:=aD s.a/\aD s.b/\aD s.c/\aD s.d
theorem PJ:aD CX:=⟨rfl,dk⟩
theorem XF:al CX=ak 121665:=rfl
theorem Zv{V:Ql}{s:Lad}(K:aD V)(h:s.small):(s.step V).small/\(s.step V).st=s.st.step (al V):=by
 obtain⟨A,B,C,D⟩:=s;obtain⟨k,l,m,n⟩:=h;dsimp only at k l m n;have e:=pD k l;have f:=pR k l;have g:=pD m n;have i:=pR m n;have d:=bG i.1 e.1;have c:=bG g.1 f.1;have a:=bG e.1 e.1;have b:=bG f.1 f.1;have j:=pR a.1 b.1;have v:=bG a.1 b.1;have z:=bG j.1 PJ;have E:=pD a.1 z.1;have w:=bG j.1 E.1;have t:=pD d.1 c.1;have x:=bG t.1 t.1;have u:=pR d.1 c.1;have F:=bG u.1 u.1;have y:=bG K F.1;have o:aD (nu A B)/\al (nu A B)=Cq (al A) (al B):=by
  unfold nu Cq;refine⟨v.1,?_⟩;rw[v.2,a.2,b.2,e.2,f.2]
 have p:aD (nt A B)/\al (nt A B)=Cp (al A) (al B):=by
  unfold nt C3 Cp;refine⟨w.1,?_⟩;rw[w.2,E.2,z.2,j.2,a.2,b.2,e.2,f.2,XF]
 have q:aD (nr A B C D)/\al (nr A B C D)=Co (al A) (al B) (al C) (al D):=by
  unfold nr CY CZ Co;refine⟨x.1,?_⟩;rw[x.2,t.2,d.2,c.2,e.2,f.2,g.2,i.2]
 have r:aD (no A B C D V)/\al (no A B C D V)=Cn (al V) (al A) (al B) (al C) (al D):=by
  unfold no CY CZ Cn;refine⟨y.1,?_⟩;rw[y.2,F.2,u.2,d.2,c.2,e.2,f.2,g.2,i.2]
 have L:(Lad.mk A B C D).step V=⟨nu A B,nt A B,nr A B C D,no A B C D V⟩:=rfl;rw[L];generalize nu A B=G at o;generalize nt A B=H at p;generalize nr A B C D=I at q;generalize no A B C D V=J at r;refine⟨⟨o.1,p.1,q.1,r.1⟩,?_⟩;show(⟨al G,al H,al I,al J⟩:Wk_St)=⟨Cq (al A) (al B),Cp (al A) (al B),Co (al A) (al B) (al C) (al D),Cn (al V) (al A) (al B) (al C) (al D)⟩
 rw[o.2,p.2,q.2,r.2]
theorem XL(x:UInt8)(r:Nat):yi x r=if (x.toNat/2^r%2==1)then 1 else 0:=by
 unfold yi;have h:x.toNat/2^r%2=0\/x.toNat/2^r%2=1:=oo
 rcases h with h|h<;>rw[h]<;>rfl
theorem Sq{s:Lad}(h:s.small)(t:Bool):(s.swap (if t then 1 else 0)).small/\(s.swap (if t then 1 else 0)).st=s.st.swap t:=by
 obtain⟨A,B,C,D⟩:=s;obtain⟨a,b,c,d⟩:=h;dsimp only at a b c d;cases t with
 |false=>
  unfold Lad.swap;simp only[Bool.false_eq_true,if_false,te A C a.1 c.1,te B D b.1 d.1];exact⟨⟨a,b,c,d⟩,rfl⟩
 |true=>
  unfold Lad.swap;simp only[if_true,uc A C a.1 c.1,uc B D b.1 d.1];exact⟨⟨c,d,a,b⟩,rfl⟩
def D6(key:List UInt8)(at0:Nat):Bool:=(key.getD (at0/8) 0).toNat/2^(at0%8)%2==1
def Bh(key:List UInt8):Nat->List Bool
 |0=>[]
 |n+1=>Bh key n++ [D6 key (254-n)]
theorem Lu:aD [1,0,0,0,0]:=⟨rfl,dk⟩
theorem Td:aD [0,0,0,0,0]:=⟨rfl,dk⟩
theorem PN{V:Ql}(a:aD V):(Lad.first V).small:=⟨Lu,Td,a,Lu⟩
theorem Ze(a:Qu){V:Ql}(b:aD V):∀n,(Lad.to a V n).small/\(Lad.to a V n).st=xT (al V) (Cm (al V)) (Bh a n)
 |0=>⟨PN b,rfl⟩
 |n+1=>by
  obtain⟨f,h2⟩:=Ze a b n;have g:yi (a.getD ((254-n)/8) 0) ((254-n)%8)=if D6 a (254-n)then 1 else 0:=XL _ _
  rw[Lad.to,Bh,g];generalize D6 a (254-n)=t;obtain⟨h,c⟩:=Sq f t;obtain⟨i,d⟩:=Zv b h;obtain⟨j,e⟩:=Sq i t;refine⟨j,?_⟩;rw[e,d,c,h2,yj];rfl
theorem Xv(l:Qu):aD (ej l):=by
 refine⟨rfl,?_⟩;have h:∀x:BitVec 64,(x&&&Ff_M51).toNat<4503599627370496:=by
  intro x;rw[rn];omega
 intro k a;match k,a with
 |0,_=>exact h _
 |1,_=>exact h _
 |2,_=>exact h _
 |3,_=>exact h _
 |4,_=>exact h _
end Go.Proofs.YtclpbaokadfhhaaGreatDoor
end
section
open Nat renaming shiftRight_eq_div_pow->Qa,mul_assoc->Qc,testBit_eq_decide_div_mod_eq->Qd,div_eq_of_lt->Qe,toUInt8->Qf,pow_add->Qg
open BitVec renaming toNat_ushiftRight->Qi,getLsbD_and->Qj
open UInt8 renaming toNat_ofNat'->Qk,toBitVec_and->Qm
open List renaming length_append->Qn,getD->Qo
namespace Go.Proofs.YtclpbaokadfhhaaGreatDoor
def oU:List av:=[0,0,0,0,0]
def Ff_one5:List av:=[1,0,0,0,0]
def lK:List av:=[1718705420411056,234908883556509,2233514472574048,2117202627021982,765476049583133]
def Ff_factor:List av:=[929955233495203,466365720129213,1662059464998953,2033849074728123,1442794654840575]
theorem BQ:aD oU:=⟨rfl,dk⟩
theorem mR:aD Ff_one5:=⟨rfl,dk⟩
theorem Gv:aD lK:=⟨rfl,dk⟩
theorem Ar:aD Ff_factor:=⟨rfl,dk⟩
theorem Gr:al oU=0:=by
 unfold al;rw[show bo oU=0 by decide+kernel];exact kH
theorem tI:al Ff_one5=1:=by
 unfold al;rw[show bo Ff_one5=1 by decide+kernel];exact mw
theorem O7:al lK=ak vV:=by
 unfold al;rw[show bo lK=vV by decide+kernel]
theorem vW:al Ff_factor=ak kV:=by
 unfold al;rw[show bo Ff_factor=kV by decide+kernel]
def fL(a:List av):List av:=aL oU a
theorem yt{a:List av}(c:aD a):aD (fL a)/\al (fL a)= -al a:=by
 obtain⟨b,h2⟩:=pR BQ c;refine⟨b,?_⟩;unfold fL;rw[h2,Gr];generalize al a=x;grind
theorem oz(a:List av):(fL a).length=5:=my _ _
def bL(a:List av):List av:=aa (iS a 251 251) (iS a 251 251)
def eK(a:List av):List av:=if aW (aa (bL a) (bL a))=aW a then bL a else aa (bL a) lK
def ef(a:List av):List av×Bool:=if aW (aa (eK a) (eK a))=aW a then(eK a,true)else (oU,false)
theorem Ap(a:List av):(bL a).length=5:=by unfold bL;exact aw _ _
theorem Kg(a:List av):(eK a).length=5:=by
 have b:=Ap a;have h2:=aw (bL a) lK;unfold eK;generalize aa (bL a) lK=u at h2|-;generalize aW (aa (bL a) (bL a))=v;generalize aW a=v';generalize bL a=r at b|-;by_cases h:v=v'
 .rw[if_pos h];exact b
 .rw[if_neg h];exact h2
theorem BV(a:List av):(ef a).1.length=5:=by
 have b:=Kg a;unfold ef;generalize aW (aa (eK a) (eK a))=v;generalize aW a=v';generalize eK a=r at b|-;by_cases h:v=v'
 .rw[if_pos h];exact b
 .rw[if_neg h];rfl
theorem uq{a b:List av}(c:aD a)(d:aD b):aW a=aW b↔al a=al b:=
 ⟨λh=>tE (by rw[<-oW c,<-oW d,h]),zH c d⟩
theorem Gt{a:List av}(c:aD a):aD (bL a)/\al (bL a)=dD (al a) 7237005577332262213973186563042994240829374041602535252466099000494570602494:=by
 obtain⟨e,d,f⟩:∃e,e=3618502788666131106986593281521497120414687020801267626233049500247285301247/\e+1=2^251:=⟨_,rfl,dd⟩
 obtain⟨b,h⟩:=A6 a c 251 251 e oo oo f;obtain⟨g,i⟩:=bG b b;unfold bL;refine⟨g,?_⟩;rw[i];unfold al;rw[xI h,tG,<-mQ,d]
theorem Un{x:cC}(h:x*x=1):x=1\/x= -1:=by
 have:(x-1)*(x+1)=0:=gg
 rcases wt Gf_S this with h|h
 .left;grind
 .right;grind
theorem YO(x:cC)(n:Nat):dD (x*x) n=dD x (n+n):=by rw[xa,mQ]
theorem WE(x:cC):dD x 2=x*x:=by
 show(1:cC)*x*x=x*x
 grind
theorem Gu(x a r:cC)(b:a=x*x)(d:r=dD a 7237005577332262213973186563042994240829374041602535252466099000494570602494):r*r=a\/r*r= -a:=by
 by_cases f:x=0
 .left
  have c:a=0:=by rw[b,f];grind
  have i:r=0:=by
   rw[d,c,show 7237005577332262213973186563042994240829374041602535252466099000494570602494=7237005577332262213973186563042994240829374041602535252466099000494570602493+1 from rfl,mQ];have:dD (0:cC) 1=0:=by show(1:cC)*0=0;grind
   rw[this];generalize dD (0:cC) 7237005577332262213973186563042994240829374041602535252466099000494570602493=y;grind
  rw[i,c];grind
 .have g:=EK f 57896044618658097711785492504343953926634992332820282019728792003956564819948 (by unfold bW;omega);have j:dD x 28948022309329048855892746252171976963317496166410141009864396001978282409974*dD x 28948022309329048855892746252171976963317496166410141009864396001978282409974=1:=by
   rw[<-mQ];exact g
  have e:r*r=dD x 28948022309329048855892746252171976963317496166410141009864396001978282409974*a:=by
   rw[d,b,YO,<-mQ,<-WE x,<-mQ];try exact congrArg (dD x) dk
  rcases Un j with h|h
  .left;rw[e,h];grind
  .right;rw[e,h];grind
theorem YQ:ak vV*ak vV= -1:=Ul
theorem Gs{a:List av}(c:aD a):aD (eK a)/\(al (eK a)=al (bL a)\/al (eK a)=al (bL a)*ak vV):=by
 obtain⟨b,_⟩:=Gt c;unfold eK;split
 .exact⟨b,Or.inl rfl⟩
 .obtain⟨d,e⟩:=bG b Gv;exact⟨d,Or.inr (by rw[e,O7])⟩
theorem MM{a:List av}(d:aD a){x:cC}(n:al a=x*x):(ef a).2=true/\aD (ef a).1/\al (ef a).1*al (ef a).1=x*x:=by
 obtain⟨g,p⟩:=Gt d;obtain⟨j,_⟩:=Gs d;have m:=Gu x (al a) (al (bL a)) n p;obtain⟨k,u1⟩:=bG g g;obtain⟨o,u2⟩:=bG j j;have f:al (eK a)*al (eK a)=al a:=by
  by_cases c:aW (aa (bL a) (bL a))=aW a
  .have e:eK a=bL a:=by unfold eK;rw[if_pos c]
   rw[e,<-u1];exact(uq k d).1 c
  .have e:eK a=aa (bL a) lK:=by unfold eK;rw[if_neg c]
   rw[e,(bG g Gv).2,O7];have s:al (bL a)*al (bL a)≠al a:=λh=>c ((uq k d).2 (by rw[u1,h]))
   have l:=m.resolve_left s;have q:=YQ;generalize al (bL a)=r at l;generalize ak vV=i at q;generalize al a=b at l;grind
 have c:=(uq o d).2 (by rw[u2,f]);have e:ef a=(eK a,true):=by unfold ef;rw[if_pos c]
 rw[e];rw[n]at f;clear e c u2 o u1 k m p g;generalize eK a=r at j f|-;exact⟨rfl,j,f⟩
theorem Uo{a:List av}(e:aD a)(h:(ef a).2=true):aD (ef a).1/\al (ef a).1*al (ef a).1=al a:=by
 obtain⟨c,_⟩:=Gs e;obtain⟨f,u2⟩:=bG c c;have b:=uq f e;unfold ef at h|-;rw[u2]at b;clear u2 f;generalize aW (aa (eK a) (eK a))=v at h b|-;generalize aW a=v' at h b|-;generalize eK a=r at h b c|-;by_cases d:v=v'
 .rw[if_pos d];exact⟨c,b.1 d⟩
 .rw[if_neg d]at h;cases h
def io(a:List av):UInt8:=(((aW a).getD 0 0)&&&1).toNat.toUInt8
theorem O6{a b:List av}(c:aD a)(d:aD b)(h:al a=al b):io a=io b:=by
 unfold io;rw[zH c d h]
theorem ur{a:List av}(b:aD a):(io a).toNat=cI (al a)%2:=by
 rw[<-oW b];unfold io;have:(((aW a).getD 0 0)&&&1).toNat=((aW a).getD 0 0).toNat%2:=by
  rw[BitVec.toNat_and,show (1:av).toNat=1 from rfl,Nat.and_one_is_mod]
 rw[this];unfold bo;simp only[Qf,Qk];omega
theorem Kf(x:cC)(h:x≠0):cI (-x)%2≠cI x%2:=by
 have d:=EJ x;have i:cI x≠0:=λe=>h (tE (by rw[e];rfl))
 have e: -x=ak (bW-cI x):=by
  have:=yQ (a:=0) (b:=cI x) (c:=bW-cI x) (by rw[Nat.sub_add_cancel oo];simp);rw[this,tF,kH];grind
 have h2:bW%2=1:=dk
 have f:=Hk;rw[e,tD];generalize cI x=n at d i|-;generalize bW=q at d h2 f|-;have g:(q-n)%q=q-n:=Nat.mod_eq_of_lt oo;rw[g];omega
structure Cv_Pn where
 x:List av
 y:List av
 z:List av
def bM(p:Cv_Pn):List av:=p.x++p.y++p.z
def Cv_Ok(p:Cv_Pn):Prop:=p.x.length=5/\p.y.length=5/\p.z.length=5
theorem Cv_Ok.row{p:Cv_Pn}(h:Cv_Ok p):(bM p).length=15:=by unfold bM;rw[Qn,Qn,h.1,h.2.1,h.2.2]
def Cv_base:Cv_Pn:=⟨[1738742601995546,1146398526822698,2070867633025821,562264141797630,587772402128613],[1801439850948184,1351079888211148,450359962737049,900719925474099,1801439850948198],Ff_one5⟩
def zQ:Cv_Pn:=⟨oU,oU,oU⟩
def uJ:Cv_Pn:=⟨oU,Ff_one5,Ff_one5⟩
def xP(a b:Cv_Pn):=aa a.x b.x
def xO(a b:Cv_Pn):=aa a.y b.y
def yf(a b:Cv_Pn):=aI (aa a.x b.y) (aa b.x a.y)
def pG(a b:Cv_Pn):=aa a.z b.z
def rq(a b:Cv_Pn):=aa (pG a b) (pG a b)
def pH(a b:Cv_Pn):=aa (aa Ff_factor (xP a b)) (xO a b)
def tK(a b:Cv_Pn):=aI (rq a b) (pH a b)
def tL(a b:Cv_Pn):=aL (rq a b) (pH a b)
def dK(a b:Cv_Pn):Cv_Pn:=⟨aa (aa (pG a b) (yf a b)) (tL a b),aa (aa (pG a b) (aI (xO a b) (xP a b))) (tK a b),aa (tK a b) (tL a b)⟩
theorem Ay(a b:Cv_Pn):(dK a b).x=aa (aa (pG a b) (yf a b)) (tL a b):=by unfold dK;dsimp only
theorem Ax(a b:Cv_Pn):(dK a b).y=aa (aa (pG a b) (aI (xO a b) (xP a b))) (tK a b):=by unfold dK;dsimp only
theorem Aw(a b:Cv_Pn):(dK a b).z=aa (tK a b) (tL a b):=by unfold dK;dsimp only
theorem yV(a b:Cv_Pn):Cv_Ok (dK a b):=by
 unfold Cv_Ok;rw[Ay,Ax,Aw,aw,aw,aw];exact⟨rfl,rfl,rfl⟩
def jG(a:Cv_Pn):Cv_Pn:=⟨fL a.x,a.y,a.z⟩
def lI(bit:av)(a b:Cv_Pn):Cv_Pn:=⟨(aY bit a.x b.x).1,(aY bit a.y b.y).1,(aY bit a.z b.z).1⟩
theorem Ff(c:av){a:Cv_Pn}(b:Cv_Pn)(d:Cv_Ok a):Cv_Ok (lI c a b):=by
 refine⟨?_,?_,?_⟩
 .show(aY c a.x b.x).1.length=5
  rw[aY,(dg _ _ _ _).1,d.1]
 .show(aY c a.y b.y).1.length=5
  rw[aY,(dg _ _ _ _).1,d.2.1]
 .show(aY c a.z b.z).1.length=5
  rw[aY,(dg _ _ _ _).1,d.2.2]
theorem Lk{a b:Cv_Pn}(c:Cv_Ok a)(d:Cv_Ok b):lI 0 a b=a:=by
 unfold lI;rw[te _ _ c.1 d.1,te _ _ c.2.1 d.2.1,te _ _ c.2.2 d.2.2]
theorem MU{a b:Cv_Pn}(c:Cv_Ok a)(d:Cv_Ok b):lI 1 a b=b:=by
 unfold lI;rw[uc _ _ c.1 d.1,uc _ _ c.2.1 d.2.1,uc _ _ c.2.2 d.2.2]
def dw(a:Cv_Pn)(n:List av):Nat->Cv_Pn
 |0=>uJ
 |k+1=>lI (kF n (252-k)) (dK (dw a n k) (dw a n k)) (dK (dK (dw a n k) (dw a n k)) a)
theorem DM(a:Cv_Pn)(n:List av)(k:Nat):Cv_Ok (dw a n k):=by
 cases k with
 |zero=>exact⟨rfl,rfl,rfl⟩
 |succ k=>exact Ff _ _ (yV _ _)
def fB(a:Cv_Pn)(n:List av):Cv_Pn:=dw a n 253
theorem wu(a:Cv_Pn)(n:List av):Cv_Ok (fB a n):=DM a n 253
def Cv_Is(a:Cv_Pn)(p:jc):Prop:=aD a.x/\aD a.y/\aD a.z/\Ed_Rep Gf_S (al a.x) (al a.y) (al a.z) p
theorem Cv_Is.ok{a:Cv_Pn}{p:jc}(h:Cv_Is a p):Cv_Ok a:=⟨h.1.1,h.2.1.1,h.2.2.1.1⟩
theorem B6:Gf_S.d=ak kV:=rfl
theorem Cv_Is.plus{a b:Cv_Pn}{p q:jc}(E:Cv_Is a p)(F:Cv_Is b q):Cv_Is (dK a b) (dO Gf_S p q):=by
 obtain⟨j,k,w,G⟩:=E;obtain⟨l,m,A,H⟩:=F;obtain⟨t,e⟩:=bG j l;obtain⟨u,f⟩:=bG k m;obtain⟨I,X⟩:=bG j m;obtain⟨J,Z⟩:=bG l k;obtain⟨R,ab⟩:=pD I J;obtain⟨d,c⟩:=bG w A;obtain⟨s,i⟩:=bG d d;obtain⟨K,g⟩:=bG Ar t;obtain⟨n,vc⟩:=bG K u;obtain⟨r,vm⟩:=pD s n;obtain⟨o,v⟩:=pR s n;obtain⟨L,v4⟩:=bG d R;obtain⟨M,v5⟩:=bG L o;obtain⟨N,v6⟩:=pD u t;obtain⟨O,v7⟩:=bG d N;obtain⟨P,v8⟩:=bG O r;obtain⟨Q,v9⟩:=bG r o;have h:=Ed_Rep.add Gf_S G H _ _ _ _ _ rfl rfl rfl rfl rfl;have B:al (dK a b).x=al a.z*al b.z*(al a.x*al b.y+al b.x*al a.y)*(al a.z*al b.z*(al a.z*al b.z)-Gf_S.d*(al a.x*al b.x)*(al a.y*al b.y)):=by
  rw[Ay];unfold pG yf tL rq pH pG xP xO;rw[v5,v4,c,ab,X,Z,v,i,c,vc,g,e,f,vW,B6]
 have C:al (dK a b).y=al a.z*al b.z*(al a.y*al b.y+al a.x*al b.x)*(al a.z*al b.z*(al a.z*al b.z)+Gf_S.d*(al a.x*al b.x)*(al a.y*al b.y)):=by
  rw[Ax];unfold pG tK rq pH pG xP xO;rw[v8,v7,c,v6,f,e,vm,i,c,vc,g,e,f,vW,B6]
 have D:al (dK a b).z=(al a.z*al b.z*(al a.z*al b.z)+Gf_S.d*(al a.x*al b.x)*(al a.y*al b.y))*(al a.z*al b.z*(al a.z*al b.z)-Gf_S.d*(al a.x*al b.x)*(al a.y*al b.y)):=by
  rw[Aw];unfold tK tL rq pH pG xP xO;rw[v9,vm,v,i,c,vc,g,e,f,vW,B6]
 have S:aD (dK a b).x:=by rw[Ay];unfold pG yf tL rq pH pG xP xO;exact M
 have T:aD (dK a b).y:=by rw[Ax];unfold pG tK rq pH pG xP xO;exact P
 have W:aD (dK a b).z:=by rw[Aw];unfold tK tL rq pH pG xP xO;exact Q
 unfold Cv_Is;rw[B,C,D];exact⟨S,T,W,h⟩
theorem Cv_Is.start:Cv_Is uJ (nC Gf_S):=by
 refine⟨BQ,mR,mR,?_⟩;show Ed_Rep Gf_S (al oU) (al Ff_one5) (al Ff_one5) _
 rw[Gr,tI];exact Ed_Rep.zero Gf_S
theorem Cv_Is.neg{a:Cv_Pn}{p:jc}(h:Cv_Is a p):Cv_Is (jG a) (jE Gf_S p):=by
 obtain⟨b,c,d,e⟩:=h;obtain⟨s,v⟩:=yt b;unfold Cv_Is;rw[show (jG a).x=fL a.x by unfold jG;dsimp only,show (jG a).y=a.y by unfold jG;dsimp only,show (jG a).z=a.z by unfold jG;dsimp only,v];exact⟨s,c,d,Ed_Rep.neg Gf_S e⟩
theorem Cv_base_is:Cv_Is Cv_base Gf_B:=by
 refine⟨⟨rfl,dk⟩,⟨rfl,dk⟩,mR,?_⟩;have a:al Cv_base.x=ak pX:=by unfold al;rw[show bo Cv_base.x=pX by decide+kernel]
 have b:al Cv_base.y=ak pC:=by unfold al;rw[show bo Cv_base.y=pC by decide+kernel]
 have c:al Cv_base.z=1:=tI;rw[a,b,c];exact Ed_Rep.of Gf_S Gf_B
theorem Cv_Is.timesTo{a:Cv_Pn}{p:jc}(h:Cv_Is a p)(n:List av)(f:n.length=4)(g:bZ n<2^253):∀k,k<=253->Cv_Is (dw a n k) (cm Gf_S (bZ n/2^(253-k)) p)
 |0,_=>by
  rw[Nat.sub_zero,Qe g];exact Cv_Is.start
 |k+1,j=>by
  have i:=Cv_Is.timesTo h n f g k oo;have h2:=Cv_Is.plus i i;rw[tj]at h2;have b:=Cv_Is.plus h2 h;rw[Ba]at b;have c:=Cz n f (252-k) oo;have d:=Cx (bZ n) 253 k oo;rw[show 253-(k+1)=252-k by omega]at d|-;rw[dw];rcases Ha _ (LT n (252-k))with e|e
  .rw[e,show (0:av).toNat=0 from rfl]at c;rw[e,Lk h2.ok b.ok,d,<-c,show∀x:Nat,x+x+0=2*x by omega];exact h2
  .rw[e,show (1:av).toNat=1 from rfl]at c;rw[e,MU h2.ok b.ok,d,<-c,show∀x:Nat,x+x+1=2*x+1 by omega];exact b
theorem Cv_Is.times{a:Cv_Pn}{p:jc}(h:Cv_Is a p){n:List av}(b:iQ n):Cv_Is (fB a n) (cm Gf_S (bZ n) p):=by
 have c:be=7237005577332262213973186563042994240857116359379907606001950938285454250989:=rfl;have h2:=b.2;have:=h.timesTo n b.1 oo 253 oo;rw[Nat.sub_self,Nat.pow_zero,Nat.div_one]at this;exact this
theorem Kt(n:Nat):cm Gf_S (n%be) Gf_B=cm Gf_S n Gf_B:=UF Gf_S acN n
theorem Gw(l:Qu)(k:Nat)(x:UInt8)(h:k<l.length):(l.set k x).getD k 0=x:=by simp[Qo,h]
theorem Le(l:Qu)(k i:Nat)(x:UInt8)(h:k≠i):(l.set k x).getD i 0=l.getD i 0:=by simp[Qo,List.getElem?_set_ne h]
theorem ES{a:List av}(h:aD a):((fv a).getD 31 0).toNat<128:=by
 have c:=(pi a (h.mono oo)).1;unfold fv;rw[ut _ 32 31 oo oo];unfold qS nW;have d:=c.2 3 oo;have f:=c.2 4 oo;generalize aW a=b at c d f;show((((b.getD 3 0>>>39)|||(b.getD 4 0<<<12))>>>56).toNat.toUInt8).toNat<128
 generalize b.getD 3 0=x at d;generalize b.getD 4 0=y at f;have e:((x>>>39)|||(y<<<12)).toNat<9223372036854775808:=by
  have g:(x>>>39).toNat<2^63:=by
   rw[Qi,Qa];have:=x.isLt;omega
  have h2:(y<<<12).toNat<2^63:=by
   rw[BitVec.toNat_shiftLeft,Nat.shiftLeft_eq];omega
  rw[BitVec.toNat_or];exact Nat.or_lt_two_pow g h2
 generalize (x>>>39)|||(y<<<12)=z at e
 rw[Qi,Qa];simp only[Qf,Qk];omega
theorem RU{a b:List av}(c:aD a)(d:aD b)(h:al a=al b):fv a=fv b:=by
 unfold fv;rw[zH c d h]
theorem WJ:∀(x b:UInt8),(x|||(b<<<7))&&&127=x&&&127:=by
 have:∀(x:Fin 256) (b:Bool),((x.val.toUInt8|||((if b then 1 else 0:UInt8)<<<7))&&&127=x.val.toUInt8&&&127):=dk
 intro x b;apply UInt8.toBitVec_inj.1
 rw[Qm,UInt8.toBitVec_or,UInt8.toBitVec_shiftLeft,Qm];have e:∀(x b:BitVec 8),(x|||(b<<<(7:BitVec 8)))&&&127=x&&&127:=by
  intro x b;apply BitVec.eq_of_getLsbD_eq
  intro i a;rw[Qj,Qj,BitVec.getLsbD_or];match i,a with
  |0,_|1,_|2,_|3,_|4,_|5,_|6,_=>simp
  |7,_=>simp
 exact e _ _
theorem RJ(x b:UInt8)(c:x.toNat<128)(a:b.toNat<2):(x|||(b<<<7))>>>7=b:=by
 have d:∀(x:Fin 128) (b:Fin 2),(x.val.toUInt8|||(b.val.toUInt8<<<7))>>>7=b.val.toUInt8:=dk
 have:=d ⟨x.toNat,c⟩ ⟨b.toNat,a⟩;simpa using this
def nQ(a:Cv_Pn):List UInt8:=fv (aa a.y (bN a.z))
def uv(a:Cv_Pn):UInt8:=io (aa a.x (bN a.z))
def bJ(a:Cv_Pn):List UInt8:=(nQ a).set 31 ((nQ a).getD 31 0|||(uv a<<<7))
theorem tl(a:Cv_Pn):(nQ a).length=32:=by unfold nQ;exact jD _
theorem ww(a:Cv_Pn):(bJ a).length=32:=by unfold bJ;rw[List.length_set,tl]
theorem C8:Gf_S.inv=oT:=rfl
theorem Cv_Is.xq{a:Cv_Pn}{p:jc}(h:Cv_Is a p):aD (aa a.x (bN a.z))/\al (aa a.x (bN a.z))=p.x:=by
 obtain⟨b,i,c,r⟩:=h;obtain⟨d,f⟩:=us c;obtain⟨e,g⟩:=bG b d;have:=Ed_Rep.x Gf_S r;rw[C8]at this;exact⟨e,by rw[g,f,this]⟩
theorem Cv_Is.yq{a:Cv_Pn}{p:jc}(h:Cv_Is a p):aD (aa a.y (bN a.z))/\al (aa a.y (bN a.z))=p.y:=by
 obtain⟨i,b,c,r⟩:=h;obtain⟨d,f⟩:=us c;obtain⟨e,g⟩:=bG b d;have:=Ed_Rep.y Gf_S r;rw[C8]at this;exact⟨e,by rw[g,f,this]⟩
theorem Cv_Is.bytes{a b:Cv_Pn}{p:jc}(c:Cv_Is a p)(d:Cv_Is b p):bJ a=bJ b:=by
 obtain⟨g,k⟩:=c.xq;obtain⟨h,l⟩:=d.xq;obtain⟨i,m⟩:=c.yq;obtain⟨j,n⟩:=d.yq;have e:uv a=uv b:=O6 g h (by rw[k,l]);have f:nQ a=nQ b:=RU i j (by rw[m,n]);unfold bJ;rw[e,f]
def fM(y:List av):List av:=aa (aL (aa y y) Ff_one5) (bN (aI (aa Ff_factor (aa y y)) Ff_one5))
theorem Ks(y:List av):(fM y).length=5:=by unfold fM;exact aw _ _
def lH(r:List av)(b:UInt8):List av:=if io r=b then r else fL r
def mK(s:List UInt8):Cv_Pn:=⟨lH (ef (fM (ej s))).1 (s.getD 31 0>>>7),ej s,Ff_one5⟩
def jF(s:List UInt8):Cv_Pn×Bool:=if (ef (fM (ej s))).2=true then(if bJ (mK s)=s then(mK s,true)else (zQ,false))else (zQ,false)
theorem Hm(r:List av)(b:UInt8)(h:r.length=5):(lH r b).length=5:=by
 unfold lH;have c:=oz r;generalize fL r=n at c|-;by_cases a:io r=b
 .rw[if_pos a];exact h
 .rw[if_neg a];exact c
theorem YZ(s:Qu):Cv_Ok (jF s).1:=by
 have b:=Hm (ef (fM (ej s))).1 (s.getD 31 0>>>7) (BV _);have c:Cv_Ok (mK s):=by
  unfold mK;generalize lH (ef (fM (ej s))).1 (s.getD 31 0>>>7)=x at b;exact⟨b,rfl,rfl⟩
 unfold jF;generalize (ef (fM (ej s))).2=f;generalize mK s=m at c|-;by_cases a:f=true
 .rw[if_pos a];by_cases h2:bJ m=s
  .rw[if_pos h2];exact c
  .rw[if_neg h2];exact⟨rfl,rfl,rfl⟩
 .rw[if_neg a];exact⟨rfl,rfl,rfl⟩
theorem aaW{a:Nat} [NeZero a](d:Fin a)(h:d*(0*0)+1=0):(1:Fin a)=0:=gg
theorem Az(y:cC):ak kV*(y*y)+1≠0:=by
 intro h;have g:y≠0:=by
  intro e;rw[e]at h;exact pF Gf_S (aaW _ h)
 have a:=tH y g;have b:=Ul;apply OY (ak vV*oT y)
 generalize ak kV=d at h|-;generalize ak vV=i at b|-;generalize oT y=z at a|-;have e:d*(y*y)*(z*z)= -(z*z):=by
  have:d*(y*y)= -1:=gg
  rw[this];grind
 have c:d*(y*y)*(z*z)=d:=by
  have:d*(y*y)*(z*z)=d*((y*z)*(y*z)):=gg
  rw[this,a];grind
 have f:i*z*(i*z)=(i*i)*(z*z):=gg
 rw[f,b,<-c,e];grind
theorem GJ{y:List av}(b:aD y):aD (fM y)/\al (fM y)*(ak kV*(al y*al y)+1)=al y*al y-1:=by
 obtain⟨c,d⟩:=bG b b;obtain⟨e,j⟩:=pR c mR;obtain⟨f,k⟩:=bG Ar c;obtain⟨g,l⟩:=pD f mR;obtain⟨h,o⟩:=us g;obtain⟨i,p⟩:=bG e h;unfold fM;refine⟨i,?_⟩;rw[p,j,d,o,l,k,d,vW,tI];have a:=tH _ (Az (al y));generalize ak kV*(al y*al y)+1=n at a|-;generalize oT n=m at a|-;generalize al y*al y-1=t;grind
theorem Ph{r:List av}(a:aD r){x:cC}{b:UInt8}(h:al r*al r=x*x)(c:b.toNat=cI x%2):aD (lH r b)/\al (lH r b)=x:=by
 have k:(al r-x)*(al r+x)=0:=by
  generalize al r=y at h;grind
 have d:=ur a;obtain⟨l,m⟩:=yt a;unfold lH;rcases wt Gf_S k with e|e
 .have e:al r=x:=by
   generalize al r=y at e;grind
  have:io r=b:=UInt8.toNat.inj (by rw[d,c,e]);rw[if_pos this];exact⟨a,e⟩
 .have e:al r= -x:=by
   generalize al r=y at e;grind
  by_cases g:x=0
  .have f:al r=x:=by rw[e,g];grind
   have:io r=b:=UInt8.toNat.inj (by rw[d,c,f]);rw[if_pos this];exact⟨a,f⟩
  .have j:io r≠b:=λi=>Kf x g (by rw[<-e,<-d,<-c,i])
   rw[if_neg j];exact⟨l,by rw[m,e];grind⟩
theorem YW{a:Cv_Pn}{p:jc}(h:Cv_Is a p):al (ej (bJ a))=p.y/\((bJ a).getD 31 0>>>7).toNat=cI p.x%2:=by
 obtain⟨f,g⟩:=h.xq;obtain⟨c,j⟩:=h.yq;have l:=tl a;have b:(bJ a).getD 31 0=(nQ a).getD 31 0|||(uv a<<<7):=by unfold bJ;exact Gw _ _ _ oo
 constructor
 .have e:ej (bJ a)=ej (nQ a):=by
   unfold ej;refine Up _ _ (λi k=>?_) ?_
   .show(bJ a).getD i 0=(nQ a).getD i 0
    unfold bJ;exact Le _ _ _ _ oo
   .show(bJ a).getD 31 0&&&127=(nQ a).getD 31 0&&&127
    rw[b];exact WJ _ _
  rw[e];unfold nQ;rw[RO c,j]
 .have ht:((nQ a).getD 31 0).toNat<128:=by unfold nQ;exact ES c
  have d:(uv a).toNat=cI p.x%2:=by unfold uv;rw[ur f,g]
  rw[b,RJ _ _ ht oo,d]
theorem Sa{a:Cv_Pn}{p:jc}(h:Cv_Is a p):∃b,jF (bJ a)=(b,true)/\Cv_Is b p:=by
 obtain⟨g,k⟩:=YW h;obtain⟨st,c⟩:=GJ (tg (bJ a));rw[g]at c;have e:p.y*p.y-p.x*p.x-1-ak kV*p.x*p.x*p.y*p.y=0:=p.on;have j:al (fM (ej (bJ a)))=p.x*p.x:=by
  refine jT Gf_S (Az p.y) ?_;generalize al (fM (ej (bJ a)))=t at c;generalize ak kV=d at c e|-;generalize p.x=x at c e|-;generalize p.y=y at c e|-;grind
 obtain⟨i,l,n⟩:=MM st j;obtain⟨m,o⟩:=Ph l n k;have f:Cv_Is (mK (bJ a)) p:=by
  unfold Cv_Is mK;dsimp only;refine⟨m,tg _,mR,?_⟩;rw[o,g,tI];exact Ed_Rep.of Gf_S p
 refine⟨mK (bJ a),?_,f⟩;unfold jF;rw[if_pos i,if_pos (Cv_Is.bytes f h)]
def mm(a:List bv):List UInt8:=br a 32
theorem pv(a:List bv):(mm a).length=32:=mJ _ _
theorem TU(M r:Nat)(a:r<8):M%256/2^r%2=M/2^r%2:=by
 have h:256=2^r*(2*2^(7-r)):=by
  rw[<-Qc,<-Nat.pow_succ,<-Qg,show r.succ+(7-r)=8 by omega]
 have e:M=M%256+2^r*(2*(2^(7-r)*(M/256))):=by
  rw[<-Qc,<-Qc,Qc (2^r),<-h];omega
 conv=>rhs;rw[e]
 rw[Nat.add_mul_div_left _ _ (Nat.two_pow_pos r),Nat.add_mul_mod_self_left]
theorem MB(a:List bv)(k:Nat):(qS a (k/8)).toNat/2^(k%8)%2=(kF a k).toNat:=by
 unfold qS kF;rw[CA,Qi,Qi,Qa,Qa,show k/8/8=k/64 by omega];generalize (a.getD (k/64) 0).toNat=L;simp only[Qf,Qk];show L/2^(k/8%8*8)%256/2^(k%8)%2=_
 rw[TU _ _ (Nat.mod_lt _ dd),Nat.div_div_eq_div_mul,<-Qg];congr 3;omega
theorem vO(a:List bv)(d:a.length=4):aR (mm a)=bZ a:=by
 have b:=pv a;have c:=pq (mm a);have h2:=Em a;rw[b]at c;apply Nat.eq_of_testBit_eq
 intro k;rw[Qd,Qd];by_cases f:k<256
 .rw[vL _ _ (by rw[b];omega)];have e:(mm a).getD (k/8) 0=qS a (k/8):=ut a 32 (k/8) oo oo;rw[e,MB,Cz a d k f]
 .have g:2^256<=2^k:=Nat.pow_le_pow_right dd oo;rw[Qe oo,Qe oo]
theorem KV{l:Qu}(h:be<=aR l):mm (iX l)≠l:=by
 intro e;obtain⟨f,v⟩:=lk l;have:=vO (iX l) f.1;rw[e]at this;have:=f.2;omega
variable (H:List UInt8→List UInt8)
def iM(adx:List UInt8):List av:=iX (eV ((H adx).take 32))
def oJ(adx:List UInt8):List UInt8:=(H adx).drop 32
def dq(adx:List UInt8):List UInt8:=bJ (fB Cv_base (iM H adx))
def ol(Sg_first id data:List UInt8):List av:=iX (H (Sg_first++id++data))
def pc(adx data:List UInt8):List av:=iX (H (oJ H adx++data))
def Sg_first(adx data:List UInt8):List UInt8:=bJ (fB Cv_base (pc H adx data))
def rQ(adx data:List UInt8):List av:=dI (pc H adx data) (pP (ol H (Sg_first H adx data) (dq H adx) data) (iM H adx))
def nc(adx data:List UInt8):List UInt8:=Sg_first H adx data++mm (rQ H adx data)
def yY(p:Cv_Pn)(id data f:List UInt8)(n:List av):List UInt8:=bJ (dK (fB Cv_base n) (jG (fB p (ol H f id data))))
def jM(id data sig:List UInt8):Bool:=
 if(jF id).2=true then(if mm (iX (sig.drop 32))=sig.drop 32 then decide (yY H (jF id).1 id data (sig.take 32) (iX (sig.drop 32))=sig.take 32)else false)else false
theorem xV(a:Qu):(dq H a).length=32:=by unfold dq;exact ww _
theorem Ai(a data:Qu):(Sg_first H a data).length=32:=by unfold Sg_first;exact ww _
theorem KT(a data:Qu):(nc H a data).length=64:=by
 unfold nc;rw[Qn,Ai,pv]
theorem El(a data:Qu):iQ (rQ H a data)/\bZ (rQ H a data)=(bZ (pc H a data)+bZ (ol H (Sg_first H a data) (dq H a) data)*bZ (iM H a))%be:=by
 have d:iQ (pc H a data):=(lk _).1;have h2:iQ (ol H (Sg_first H a data) (dq H a) data):=(lk _).1;have e:iQ (iM H a):=(lk _).1;obtain⟨b,f⟩:=Om h2 e;obtain⟨c,g⟩:=tV d b;unfold rQ;refine⟨c,?_⟩;rw[g,f,Nat.add_mod_mod]
end Go.Proofs.YtclpbaokadfhhaaGreatDoor
end
