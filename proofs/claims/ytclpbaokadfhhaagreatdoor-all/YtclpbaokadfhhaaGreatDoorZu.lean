import Derived.Test.YtclpbaokadfhhaaGreatDoorZv
set_option maxHeartbeats 1000000
open Nat renaming two_pow_add_eq_or_of_lt->Qa,mul_add->Qc,mod_eq_of_lt->Qd,shiftRight_eq_div_pow->Qe,mod_lt->Qf,and_two_pow_sub_one_eq_mod->Qg,mod_add_div->Qi,shiftLeft_eq->Qj,mul_assoc->Qk,add_assoc->Qm,or_comm->Qn,testBit_two_pow_mul_add->Qo,add_mul_mod_self_left->Qp,pow_succ->Qq,testBit_and->Qt,mul_zero->Qx,add_zero->Qy,mul_left_comm->Qz,mul_le_mul->QA,mul_comm->QB,pow_add->QC,mul_mod->QD,add_mod->QE
open List renaming getD_cons_zero->QF,getD_cons_succ->QG,getD_eq_getElem?_getD->QH,getElem?_eq_getElem->QI,length_set->QJ,getElem?_eq_none->QL,length_append->QM
open BitVec renaming toNat_shiftLeft->QN,toNat_ushiftRight->QO,ofNat->QP,toNat_or->QQ,toNat_add->QR,toNat_and->QT,toNat_ofNat->QU
open UInt8 renaming ofNat->QV,toNat_ofNat'->QW
open ByteArray renaming size_extract->QY,getElem_eq_getElem_data->QZ
namespace Go.Proofs.YtclpbaokadfhhaaGreatDoor
def dV:Nat:=1361129467683753853853498429727072845819
def je(l:List (BitVec 64)):Nat:=(l.getD 0 0).toNat+67108864*(l.getD 1 0).toNat+4503599627370496*(l.getD 2 0).toNat+302231454903657293676544*(l.getD 3 0).toNat+20282409603651670423947251286016*(l.getD 4 0).toNat
theorem pL(a:Qv)(x:UInt8)(k:Nat)(d:k<=56)(c:a.toNat<2^k):(a|||QP 64 x.toNat<<<k).toNat=a.toNat+2^k*x.toNat:=by
 have e:=x.toNat_lt;have b:2^k<=2^56:=Nat.pow_le_pow_right oo d;have h2:x.toNat*2^k<2^64:=by
  have:x.toNat*2^k<=255*2^56:=QA oo b;omega
 rw[QQ,QN,QU,Qd (by omega:x.toNat<2^64),Qj,Qd h2,Qn,QB,<-Qa c,Nat.add_comm]
def AF(f:Nat->UInt8):Nat:=(f 0).toNat+256*(f 1).toNat+65536*(f 2).toNat+16777216*(f 3).toNat+4294967296*(f 4).toNat+1099511627776*(f 5).toNat+281474976710656*(f 6).toNat+72057594037927936*(f 7).toNat
theorem tM(f:Nat->UInt8):(ci f 8).toNat=AF f:=by
 have j:=(f 0).toNat_lt;have k:=(f 1).toNat_lt;have l:=(f 2).toNat_lt;have m:=(f 3).toNat_lt;have n:=(f 4).toNat_lt;have o:=(f 5).toNat_lt;have p:=(f 6).toNat_lt;have q:=(f 7).toNat_lt;have a:=pL 0 (f 0) 0 oo dd;have z:(0:BitVec 64).toNat=0:=rfl;have b:=pL _ (f 1) 8 oo (by rw[a];omega);have c:=pL _ (f 2) 16 oo (by rw[b,a];omega);have d:=pL _ (f 3) 24 oo (by rw[c,b,a];omega);have e:=pL _ (f 4) 32 oo (by rw[d,c,b,a];omega);have g:=pL _ (f 5) 40 oo (by rw[e,d,c,b,a];omega);have h:=pL _ (f 6) 48 oo (by rw[g,e,d,c,b,a];omega);have i:=pL _ (f 7) 56 oo (by rw[h,g,e,d,c,b,a];omega);show(((((((((0:BitVec 64)|||QP 64 (f 0).toNat<<<0)|||QP 64 (f 1).toNat<<<8)|||QP 64 (f 2).toNat<<<16)|||QP 64 (f 3).toNat<<<24)|||QP 64 (f 4).toNat<<<32)|||QP 64 (f 5).toNat<<<40)|||QP 64 (f 6).toNat<<<48)|||QP 64 (f 7).toNat<<<56).toNat=AF f
 rw[i,h,g,e,d,c,b,a];unfold AF;omega
theorem o6(x:Qv):(x&&&67108863).toNat=x.toNat%67108864:=by
 rw[QT,show (67108863:BitVec 64).toNat=2^26-1 from rfl,Qg]
theorem DQ(b a c:Qv)(j:c.toNat<=1):je (iL b a c)=b.toNat+18446744073709551616*a.toNat+340282366920938463463374607431768211456*c.toNat/\
  (((iL b a c).getD 0 0).toNat<67108864/\((iL b a c).getD 1 0).toNat<67108864/\((iL b a c).getD 2 0).toNat<67108864/\((iL b a c).getD 3 0).toNat<67108864/\((iL b a c).getD 4 0).toNat<67108864):=by
 have l:=b.isLt;have k:=a.isLt;have d:=o6 b;have e:(b>>>26&&&67108863).toNat=b.toNat/67108864%67108864:=by rw[o6,QO,Qe]
 have f:((b>>>52|||a<<<12)&&&67108863).toNat=(b.toNat/4503599627370496+4096*a.toNat)%67108864:=by
  rw[o6,QQ,QO,QN,Qe,Qj];rw[show a.toNat*2^12%2^64=2^12*(a.toNat%2^52) by omega,Qn,<-Qa (i:=12) oo];omega
 have g:(a>>>14&&&67108863).toNat=a.toNat/16384%67108864:=by rw[o6,QO,Qe]
 have h:(a>>>40|||c<<<24).toNat=a.toNat/1099511627776+16777216*c.toNat:=by
  rw[QQ,QO,QN,Qe,Qj];rw[show c.toNat*2^24%2^64=2^24*c.toNat by omega,Qn,<-Qa (i:=24) oo];omega
 unfold je iL;simp only[QF,QG];rw[d,e,f,g,h];omega
def zS(l:List (BitVec 64)):Prop:=l.length=5/\(l.getD 0 0).toNat<67108864/\(l.getD 1 0).toNat<134217728/\(l.getD 2 0).toNat<67108864/\(l.getD 3 0).toNat<67108864/\(l.getD 4 0).toNat<67108864
theorem UN(a b c d e f g h i j:Qv):jq [a,b,c,d,e] [f,g,h,i,j]=[a+f,b+g,c+h,d+i,e+j]:=rfl
theorem dz(x y:Qv)(h:x.toNat+y.toNat<18446744073709551616):(x+y).toNat=x.toNat+y.toNat:=by rw[QR];exact Qd h
theorem yW(x y:Qv)(h:x.toNat*y.toNat<18446744073709551616):(x*y).toNat=x.toNat*y.toNat:=by rw[BitVec.toNat_mul];exact Qd h
theorem Sd{a b:Ql}(o:zS a)(p:zS b):je (jq a b)=je a+je b/\(jq a b).length=5/\ ∀i,((jq a b).getD i 0).toNat<268435456:=by
 obtain⟨c,d,e,f,g,rfl⟩:=uh a o.1;obtain⟨h,j,k,l,m,rfl⟩:=uh b p.1;obtain⟨_,v,w,x,y,z⟩:=o;obtain⟨_,A,B,C,D,E⟩:=p;simp only[QF,QG]at v w x y z A B C D E;have q:=dz c h oo;have r:=dz d j oo;have s:=dz e k oo;have t:=dz f l oo;have u:=dz g m oo;rw[UN];refine⟨?_,rfl,λi=>?_⟩
 .unfold je;simp only[QF,QG];rw[q,r,s,t,u];omega
 .match i with
  |0=>show(c+h).toNat<_;omega
  |1=>show(d+j).toNat<_;omega
  |2=>show(e+k).toNat<_;omega
  |3=>show(f+l).toNat<_;omega
  |4=>show(g+m).toNat<_;omega
  |n+5=>show(0:BitVec 64).toNat<_;decide
theorem Sj(a b c d e:Qv):o8 [a,b,c,d,e]=[(((a+(0:BitVec 64))&&&(67108863:BitVec 64))+(5:BitVec 64)*(e+(d+(c+(b+(a+(0:BitVec 64))>>>26)>>>26)>>>26)>>>26)>>>26)&&&(67108863:BitVec 64),((b+(a+(0:BitVec 64))>>>26)&&&(67108863:BitVec 64))+(((a+(0:BitVec 64))&&&(67108863:BitVec 64))+(5:BitVec 64)*(e+(d+(c+(b+(a+(0:BitVec 64))>>>26)>>>26)>>>26)>>>26)>>>26)>>>26,(c+(b+(a+(0:BitVec 64))>>>26)>>>26)&&&(67108863:BitVec 64),(d+(c+(b+(a+(0:BitVec 64))>>>26)>>>26)>>>26)&&&(67108863:BitVec 64),(e+(d+(c+(b+(a+(0:BitVec 64))>>>26)>>>26)>>>26)>>>26)&&&(67108863:BitVec 64)]:=rfl
theorem kX(x:Qv):(x>>>26).toNat=x.toNat/67108864:=by rw[QO,Qe]
theorem Pp{l:Ql}(r:l.length=5)(d:∀i,(l.getD i 0).toNat<1152921504606846976):zS (o8 l)/\ ∃k,je (o8 l)+dV*k=je l:=by
 obtain⟨a,h,j,m,n,rfl⟩:=uh l r;have h0:=d 0;have o:=d 1;have h2:=d 2;have p:=d 3;have q:=d 4;simp only[QF,QG]at h0 o h2 p q;rw[Sj];have y:a+(0:BitVec 64)=a:=BitVec.add_zero a;rw[y];have F:=kX a;have s:=dz h (a>>>26) oo;generalize h+a>>>26=c at s|-;have G:=kX c;have t:=dz j (c>>>26) oo;generalize j+c>>>26=e at t|-;have H:=kX e;have u:=dz m (e>>>26) oo;generalize m+e>>>26=f at u|-;have I:=kX f;have v:=dz n (f>>>26) oo;generalize n+f>>>26=b at v|-;have J:=kX b;have z:=o6 a;have A:=o6 c;have B:=o6 e;have C:=o6 f;have D:=o6 b;have x:=yW (5:BitVec 64) (b>>>26) (by rw[show (5:BitVec 64).toNat=5 from rfl];omega);rw[show (5:BitVec 64).toNat=5 from rfl]at x;have w:=dz (a&&&(67108863:BitVec 64)) ((5:BitVec 64)*b>>>26) oo;generalize (a&&&(67108863:BitVec 64))+(5:BitVec 64)*b>>>26=g at w|-;have K:=kX g;have E:=o6 g;have L:=dz (c&&&(67108863:BitVec 64)) (g>>>26) oo;refine⟨⟨rfl,?_,?_,?_,?_,?_⟩,(b>>>26).toNat,?_⟩
 .show(g&&&67108863).toNat<_;omega
 .show((c&&&(67108863:BitVec 64))+g>>>26).toNat<_;omega
 .show(e&&&67108863).toNat<_;omega
 .show(f&&&67108863).toNat<_;omega
 .show(b&&&67108863).toNat<_;omega
 .unfold je dV;simp only[QF,QG];omega
theorem Za(a l m n o b c d e f g h i j k:Qv):gu [a,l,m,n,o] [b,c,d,e,f] [g,h,i,j,k] 0 5=[g+a*b,h+a*c,i+a*d,j+a*e,k+a*f]:=rfl
theorem Y9(l a m n o b c d e f g h i j k:Qv):gu [l,a,m,n,o] [b,c,d,e,f] [g,h,i,j,k] 1 5=[g+(5:BitVec 64)*(a*f),h+a*b,i+a*c,j+a*d,k+a*e]:=rfl
theorem Y8(l m a n o b c d e f g h i j k:Qv):gu [l,m,a,n,o] [b,c,d,e,f] [g,h,i,j,k] 2 5=[g+(5:BitVec 64)*(a*e),h+(5:BitVec 64)*(a*f),i+a*b,j+a*c,k+a*d]:=rfl
theorem Y7(l m n a o b c d e f g h i j k:Qv):gu [l,m,n,a,o] [b,c,d,e,f] [g,h,i,j,k] 3 5=[g+(5:BitVec 64)*(a*d),h+(5:BitVec 64)*(a*e),i+(5:BitVec 64)*(a*f),j+a*b,k+a*c]:=rfl
theorem Y6(l m n o a b c d e f g h i j k:Qv):gu [l,m,n,o,a] [b,c,d,e,f] [g,h,i,j,k] 4 5=[g+(5:BitVec 64)*(a*c),h+(5:BitVec 64)*(a*d),i+(5:BitVec 64)*(a*e),j+(5:BitVec 64)*(a*f),k+a*b]:=rfl
theorem MV(a b c d e f g h i j:Qv):f5 [a,b,c,d,e] [f,g,h,i,j] 5=[((((((0:BitVec 64)+a*f)+(5:BitVec 64)*(b*j))+(5:BitVec 64)*(c*i))+(5:BitVec 64)*(d*h))+(5:BitVec 64)*(e*g)),((((((0:BitVec 64)+a*g)+b*f)+(5:BitVec 64)*(c*j))+(5:BitVec 64)*(d*i))+(5:BitVec 64)*(e*h)),((((((0:BitVec 64)+a*h)+b*g)+c*f)+(5:BitVec 64)*(d*j))+(5:BitVec 64)*(e*i)),((((((0:BitVec 64)+a*i)+b*h)+c*g)+d*f)+(5:BitVec 64)*(e*j)),((((((0:BitVec 64)+a*j)+b*i)+c*h)+d*g)+e*f)]:=by
 show gu [a,b,c,d,e] [f,g,h,i,j] (gu [a,b,c,d,e] [f,g,h,i,j] (gu [a,b,c,d,e] [f,g,h,i,j] (gu [a,b,c,d,e] [f,g,h,i,j] (gu [a,b,c,d,e] [f,g,h,i,j] [0,0,0,0,0] 0 5) 1 5) 2 5) 3 5) 4 5=_
 rw[Za,Y9,Y8,Y7,Y6]
theorem Zb(X a b c d e f g h i j:Nat):(a+X*b+X*X*c+X*X*X*d+X*X*X*X*e)*(f+X*g+X*X*h+X*X*X*i+X*X*X*X*j)=(a*f)+X*(a*g+b*f)+X*X*(a*h+b*g+c*f)+X*X*X*(a*i+b*h+c*g+d*f)+X*X*X*X*(a*j+b*i+c*h+d*g+e*f)+X*X*X*X*X*((b*j+c*i+d*h+e*g)+X*(c*j+d*i+e*h)+X*X*(d*j+e*i)+X*X*X*(e*j)):=gg
theorem B8(a b c d e:Qv)(h0:a.toNat<1152921504606846976)(j:b.toNat<1152921504606846976)(h2:c.toNat<1152921504606846976)(k:d.toNat<1152921504606846976)(l:e.toNat<1152921504606846976):
  ((((((0:BitVec 64)+a)+b)+c)+d)+e).toNat=a.toNat+b.toNat+c.toNat+d.toNat+e.toNat:=by
 have z:((0:BitVec 64)+a)=a:=BitVec.zero_add a;rw[z];have f:=dz a b oo;have g:=dz (a+b) c oo;have h:=dz (a+b+c) d oo;have i:=dz (a+b+c+d) e oo;omega
theorem kP(x y:Qv)(d:x.toNat<268435456)(e:y.toNat<67108864):(x*y).toNat=x.toNat*y.toNat/\((5:BitVec 64)*(x*y)).toNat=5*(x.toNat*y.toNat)/\x.toNat*y.toNat<=18014398509481984:=by
 have c:x.toNat*y.toNat<=268435456*67108864:=QA oo oo;have a:=yW x y oo;have b:=yW (5:BitVec 64) (x*y) (by rw[a,show (5:BitVec 64).toNat=5 from rfl];omega);rw[a,show (5:BitVec 64).toNat=5 from rfl]at b;exact⟨a,b,oo⟩
theorem Pj{a b:Ql}(ha:a.length=5)(x:∀i,(a.getD i 0).toNat<268435456)(hb:b.length=5)(y:∀i,(b.getD i 0).toNat<67108864):zS (jx a b)/\ ∃k,je (jx a b)+dV*k=je a*je b:=by
 obtain⟨c,d,e,f,g,rfl⟩:=uh a ha;obtain⟨j,m,o,p,q,rfl⟩:=uh b hb;have z:=x 0;have A:=x 1;have B:=x 2;have C:=x 3;have D:=x 4;have E:=y 0;have F:=y 1;have G:=y 2;have H:=y 3;have I:=y 4;simp only[QF,QG]at z A B C D E F G H I;unfold jx;rw[MV];obtain⟨T,bq,cK⟩:=kP c j z E;obtain⟨W,bs,cX⟩:=kP c m z F;obtain⟨X,bt,cY⟩:=kP c o z G;obtain⟨Z,bx,c0⟩:=kP c p z H;obtain⟨ab,bz,c1⟩:=kP c q z I;obtain⟨ad,bX,c2⟩:=kP d j A E;obtain⟨ag,bY,c3⟩:=kP d m A F;obtain⟨ah,b5,c4⟩:=kP d o A G;obtain⟨an,b6,c5⟩:=kP d p A H;obtain⟨cd,J,c6⟩:=kP d q A I;obtain⟨ao,b7,c7⟩:=kP e j B E;obtain⟨ap,b8,c8⟩:=kP e m B F;obtain⟨ax,b9,c9⟩:=kP e o B G;obtain⟨ce,K,db⟩:=kP e p B H;obtain⟨co,L,df⟩:=kP e q B I;obtain⟨ay,ca,di⟩:=kP f j C E;obtain⟨az,cb,dl⟩:=kP f m C F;obtain⟨cp,M,dm⟩:=kP f o C G;obtain⟨cr,N,dn⟩:=kP f p C H;obtain⟨cs,O,dp⟩:=kP f q C I;obtain⟨a5,cc,dr⟩:=kP g j D E;obtain⟨cv,P,ds⟩:=kP g m D F;obtain⟨cw,Q,dx⟩:=kP g o D G;obtain⟨cx,R,dy⟩:=kP g p D H;obtain⟨cz,S,dE⟩:=kP g q D I;have s:=B8 (c*j) ((5:BitVec 64)*(d*q)) ((5:BitVec 64)*(e*p)) ((5:BitVec 64)*(f*o)) ((5:BitVec 64)*(g*m)) oo oo oo oo oo;rw[T,J,K,M,P]at s;generalize ((((((0:BitVec 64)+(c*j))+((5:BitVec 64)*(d*q)))+((5:BitVec 64)*(e*p)))+((5:BitVec 64)*(f*o)))+((5:BitVec 64)*(g*m)))=t0 at s|-;have t:=B8 (c*m) (d*j) ((5:BitVec 64)*(e*q)) ((5:BitVec 64)*(f*p)) ((5:BitVec 64)*(g*o)) oo oo oo oo oo;rw[W,ad,L,N,Q]at t;generalize ((((((0:BitVec 64)+(c*m))+(d*j))+((5:BitVec 64)*(e*q)))+((5:BitVec 64)*(f*p)))+((5:BitVec 64)*(g*o)))=t1 at t|-;have u:=B8 (c*o) (d*m) (e*j) ((5:BitVec 64)*(f*q)) ((5:BitVec 64)*(g*p)) oo oo oo oo oo;rw[X,ag,ao,O,R]at u;generalize ((((((0:BitVec 64)+(c*o))+(d*m))+(e*j))+((5:BitVec 64)*(f*q)))+((5:BitVec 64)*(g*p)))=t2 at u|-;have v:=B8 (c*p) (d*o) (e*m) (f*j) ((5:BitVec 64)*(g*q)) oo oo oo oo oo;rw[Z,ah,ap,ay,S]at v;generalize ((((((0:BitVec 64)+(c*p))+(d*o))+(e*m))+(f*j))+((5:BitVec 64)*(g*q)))=t3 at v|-;have w:=B8 (c*q) (d*p) (e*o) (f*m) (g*j) oo oo oo oo oo;rw[ab,an,ax,az,a5]at w;generalize ((((((0:BitVec 64)+(c*q))+(d*p))+(e*o))+(f*m))+(g*j))=t4 at w|-;have r:je [c,d,e,f,g]*je [j,m,o,p,q]=(c.toNat*j.toNat)+67108864*(c.toNat*m.toNat+d.toNat*j.toNat)+4503599627370496*(c.toNat*o.toNat+d.toNat*m.toNat+e.toNat*j.toNat)+302231454903657293676544*(c.toNat*p.toNat+d.toNat*o.toNat+e.toNat*m.toNat+f.toNat*j.toNat)+20282409603651670423947251286016*(c.toNat*q.toNat+d.toNat*p.toNat+e.toNat*o.toNat+f.toNat*m.toNat+g.toNat*j.toNat)+1361129467683753853853498429727072845824*((d.toNat*q.toNat+e.toNat*p.toNat+f.toNat*o.toNat+g.toNat*m.toNat)+67108864*(e.toNat*q.toNat+f.toNat*p.toNat+g.toNat*o.toNat)+4503599627370496*(f.toNat*q.toNat+g.toNat*p.toNat)+302231454903657293676544*(g.toNat*q.toNat)):=by
  have h:=Zb 67108864 (c.toNat) (d.toNat) (e.toNat) (f.toNat) (g.toNat) (j.toNat) (m.toNat) (o.toNat) (p.toNat) (q.toNat);simp only[Nat.reduceMul]at h;exact h
 clear T bq W bs X bt Z bx ab bz ad bX ag bY ah b5 an b6 cd J ao b7 ap b8 ax b9 ce K co L ay ca az cb cp M cr N cs O a5 cc cv P cw Q cx R cz S x y;generalize c.toNat*j.toNat=dP at cK s r;generalize c.toNat*m.toNat=dQ at cX t r;generalize c.toNat*o.toNat=dS at cY u r;generalize c.toNat*p.toNat=dT at c0 v r;generalize c.toNat*q.toNat=dU at c1 w r;generalize d.toNat*j.toNat=dY at c2 t r;generalize d.toNat*m.toNat=d0 at c3 u r;generalize d.toNat*o.toNat=d1 at c4 v r;generalize d.toNat*p.toNat=d2 at c5 w r;generalize d.toNat*q.toNat=a6 at c6 s r;generalize e.toNat*j.toNat=d3 at c7 u r;generalize e.toNat*m.toNat=d4 at c8 v r;generalize e.toNat*o.toNat=d5 at c9 w r;generalize e.toNat*p.toNat=a7 at db s r;generalize e.toNat*q.toNat=a8 at df t r;generalize f.toNat*j.toNat=d6 at di v r;generalize f.toNat*m.toNat=d7 at dl w r;generalize f.toNat*o.toNat=a9 at dm s r;generalize f.toNat*p.toNat=ba at dn t r;generalize f.toNat*q.toNat=bb at dp u r;generalize g.toNat*j.toNat=d8 at dr w r;generalize g.toNat*m.toNat=bd at ds s r;generalize g.toNat*o.toNat=bh at dx t r;generalize g.toNat*p.toNat=bi at dy u r;generalize g.toNat*q.toNat=bk at dE v r;obtain⟨hn,k,hk⟩:=Pp (l:=[t0,t1,t2,t3,t4]) rfl (λi=>by
  match i with
  |0=>show t0.toNat<_;omega
  |1=>show t1.toNat<_;omega
  |2=>show t2.toNat<_;omega
  |3=>show t3.toNat<_;omega
  |4=>show t4.toNat<_;omega
  |n+5=>show(0:BitVec 64).toNat<_;decide)
 refine⟨hn,k+((a6+a7+a9+bd)+67108864*(a8+ba+bh)+4503599627370496*(bb+bi)+302231454903657293676544*(bk)),?_⟩;rw[r,Qc,<-Qm,hk];unfold je dV;simp only[QF,QG];omega
theorem Sk(a b c d e o:Qv):(aQ [a,b,c,d,e] o 5).1=[(a+o)&&&(67108863:BitVec 64),(b+(a+o)>>>26)&&&(67108863:BitVec 64),(c+(b+(a+o)>>>26)>>>26)&&&(67108863:BitVec 64),(d+(c+(b+(a+o)>>>26)>>>26)>>>26)&&&(67108863:BitVec 64),(e+(d+(c+(b+(a+o)>>>26)>>>26)>>>26)>>>26)&&&(67108863:BitVec 64)]:=rfl
theorem US(a b c d e:Qv):lJ [a,b,c,d,e] 5=(e+(d+(c+(b+(a+(5:BitVec 64))>>>26)>>>26)>>>26)>>>26)>>>26:=rfl
theorem Po(a b c d e:Qv):fC [a,b,c,d,e]=[(a+((5:BitVec 64)*(e+(d+(c+(b+(a+(5:BitVec 64))>>>26)>>>26)>>>26)>>>26)>>>26))&&&(67108863:BitVec 64),(b+(a+((5:BitVec 64)*(e+(d+(c+(b+(a+(5:BitVec 64))>>>26)>>>26)>>>26)>>>26)>>>26))>>>26)&&&(67108863:BitVec 64),(c+(b+(a+((5:BitVec 64)*(e+(d+(c+(b+(a+(5:BitVec 64))>>>26)>>>26)>>>26)>>>26)>>>26))>>>26)>>>26)&&&(67108863:BitVec 64),(d+(c+(b+(a+((5:BitVec 64)*(e+(d+(c+(b+(a+(5:BitVec 64))>>>26)>>>26)>>>26)>>>26)>>>26))>>>26)>>>26)>>>26)&&&(67108863:BitVec 64),(e+(d+(c+(b+(a+((5:BitVec 64)*(e+(d+(c+(b+(a+(5:BitVec 64))>>>26)>>>26)>>>26)>>>26)>>>26))>>>26)>>>26)>>>26)>>>26)&&&(67108863:BitVec 64)]:=by
 unfold fC;rw[Sk,US]
theorem Mp(f g h i j O a b c d e:Nat)(u0:a=f+O)(u1:b=g+a/67108864)(u2:c=h+b/67108864)(u3:d=i+c/67108864)(u4:e=j+d/67108864):
  f+67108864*g+4503599627370496*h+302231454903657293676544*i+20282409603651670423947251286016*j+O=a%67108864+67108864*(b%67108864)+4503599627370496*(c%67108864)+302231454903657293676544*(d%67108864)+20282409603651670423947251286016*(e%67108864)+1361129467683753853853498429727072845824*(e/67108864):=by
 have u:=Qi a 67108864;have v:=Qi b 67108864;have w:=Qi c 67108864;have x:=Qi d 67108864;have y:=Qi e 67108864;generalize a%67108864=p at*;generalize b%67108864=q at*;generalize c%67108864=r at*;generalize d%67108864=s at*;generalize e%67108864=t at*;generalize a/67108864=k at*;generalize b/67108864=l at*;generalize c/67108864=m at*;generalize d/67108864=n at*;generalize e/67108864=o at*;omega
theorem UR(a b c d e l m n o f g h i j k p:Nat)(h0:a<67108864)(I:b<134217728)(h2:c<67108864)(J:d<67108864)(K:e<67108864)
  (B:l=a+5) (C:m=b+l/67108864) (E:n=c+m/67108864) (F:o=d+n/67108864) (G:f=e+o/67108864) (X:p=5*(f/67108864))
  (u0:g=a+p) (u1:h=b+g/67108864) (u2:i=c+h/67108864) (u3:j=d+i/67108864) (u4:k=e+j/67108864):
  g%67108864+67108864*(h%67108864)+4503599627370496*(i%67108864)+302231454903657293676544*(j%67108864)+20282409603651670423947251286016*(k%67108864)=(a+67108864*b+4503599627370496*c+302231454903657293676544*d+20282409603651670423947251286016*e)%1361129467683753853853498429727072845819:=by
 have P:=Mp a b c d e 5 l m n o f B C E F G;have Q:=Mp a b c d e p g h i j k u0 u1 u2 u3 u4;have W:a+67108864*b+4503599627370496*c+302231454903657293676544*d+20282409603651670423947251286016*e<2722258935367507707706996859454145691638:=oo
 have Z:=Qf l (show 67108864>0 by decide);have y1:=Qf m (show 67108864>0 by decide);have y2:=Qf n (show 67108864>0 by decide);have y3:=Qf o (show 67108864>0 by decide);have y4:=Qf f (show 67108864>0 by decide);have z0:=Qf g (show 67108864>0 by decide);have z1:=Qf h (show 67108864>0 by decide);have z2:=Qf i (show 67108864>0 by decide);have z3:=Qf j (show 67108864>0 by decide);have z4:=Qf k (show 67108864>0 by decide);generalize a+67108864*b+4503599627370496*c+302231454903657293676544*d+20282409603651670423947251286016*e=V at*;clear B C E F G u0 u1 u2 u3 u4 h0 I h2 J K;generalize l%67108864=r at*;generalize m%67108864=s at*;generalize n%67108864=t at*;generalize o%67108864=u at*;generalize f%67108864=v at*;generalize f/67108864=H at*;generalize g%67108864=w at*;generalize h%67108864=x at*;generalize i%67108864=y at*;generalize j%67108864=z at*;generalize k%67108864=A at*;generalize k/67108864=D at*;have R:H<=1:=oo
 have S:w+67108864*x+4503599627370496*y+302231454903657293676544*z+20282409603651670423947251286016*A<1361129467683753853853498429727072845824:=oo
 have T:r+67108864*s+4503599627370496*t+302231454903657293676544*u+20282409603651670423947251286016*v<1361129467683753853853498429727072845824:=oo
 generalize w+67108864*x+4503599627370496*y+302231454903657293676544*z+20282409603651670423947251286016*A=L at*;generalize r+67108864*s+4503599627370496*t+302231454903657293676544*u+20282409603651670423947251286016*v=M at*;have O:H=0\/H=1:=oo
 rcases O with rfl|rfl
 .have q:D=0:=oo
  subst q;rw[Qd oo];omega
 .have q:D=1:=oo
  subst q;have N:V=1361129467683753853853498429727072845819+L:=oo
  rw[N,Nat.add_mod_left,Qd oo]
theorem Lp{a:Ql}(h:zS a):je (fC a)=je a%dV/\((fC a).getD 0 0).toNat<67108864/\((fC a).getD 1 0).toNat<67108864/\((fC a).getD 2 0).toNat<67108864/\((fC a).getD 3 0).toNat<67108864/\((fC a).getD 4 0).toNat<67108864:=by
 obtain⟨hl,h0,x,h2,y,z⟩:=h;obtain⟨b,c,d,e,f,rfl⟩:=uh a hl;simp only[QF,QG]at h0 x h2 y z;rw[Po];have s:=dz b (5:BitVec 64) (by rw[show (5:BitVec 64).toNat=5 from rfl];omega);rw[show (5:BitVec 64).toNat=5 from rfl]at s;generalize b+(5:BitVec 64)=m at s|-;have F:=kX m;have t:=dz c (m>>>26) oo;generalize c+m>>>26=n at t|-;have G:=kX n;have u:=dz d (n>>>26) oo;generalize d+n>>>26=o at u|-;have H:=kX o;have v:=dz e (o>>>26) oo;generalize e+o>>>26=p at v|-;have I:=kX p;have w:=dz f (p>>>26) oo;generalize f+p>>>26=q at w|-;have J:=kX q;have l:=yW (5:BitVec 64) (q>>>26) (by rw[show (5:BitVec 64).toNat=5 from rfl];omega);rw[show (5:BitVec 64).toNat=5 from rfl]at l;generalize (5:BitVec 64)*q>>>26=r at l|-;have u0:=dz b r oo;generalize b+r=g at u0|-;have K:=kX g;have u1:=dz c (g>>>26) oo;generalize c+g>>>26=i at u1|-;have L:=kX i;have u2:=dz d (i>>>26) oo;generalize d+i>>>26=j at u2|-;have M:=kX j;have u3:=dz e (j>>>26) oo;generalize e+j>>>26=k at u3|-;have N:=kX k;have u4:=dz f (k>>>26) oo;generalize f+k>>>26=O at u4|-;have A:=o6 g;have B:=o6 i;have C:=o6 j;have D:=o6 k;have E:=o6 O;unfold je dV;simp only[QF,QG];rw[A,B,C,D,E];clear A B C D E;generalize b.toNat=P at*;generalize c.toNat=Q at*;generalize d.toNat=R at*;generalize e.toNat=S at*;generalize f.toNat=T at*;rw[F]at t;rw[G]at u;rw[H]at v;rw[I]at w;rw[J]at l;rw[K]at u1;rw[L]at u2;rw[M]at u3;rw[N]at u4;clear F G H I J K L M N;generalize m.toNat=X at*;generalize n.toNat=Z at*;generalize o.toNat=Y2 at*;generalize p.toNat=Y3 at*;generalize q.toNat=Y4 at*;generalize g.toNat=Z0 at*;generalize i.toNat=Z1 at*;generalize j.toNat=Z2 at*;generalize k.toNat=Z3 at*;generalize O.toNat=Z4 at*;generalize r.toNat=W at*;refine⟨UR P Q R S T X Z Y2 Y3 Y4 Z0 Z1 Z2 Z3 Z4 W h0 x h2 y z s t u v w l u0 u1 u2 u3 u4,Qf _ dd,Qf _ dd,Qf _ dd,Qf _ dd,Qf _ dd⟩
theorem AE(n:Nat):∀k,aR (dj n k)=n%256^k
 |0=>by show 0=n%1;omega
 |k+1=>by
  rw[dj,kN,AE n k,cJ];show n%256^k+256^k*((QV (n/256^k%256)).toNat+256*0)=_
  rw[QW,Qd (by omega:n/256^k%256<256),Qx,Qy,Nat.mod_pow_succ]
theorem Sf(h:Ql)(h0:(h.getD 0 0).toNat<67108864)(l:(h.getD 1 0).toNat<67108864)(h2:(h.getD 2 0).toNat<67108864)(m:(h.getD 3 0).toNat<67108864)(_:(h.getD 4 0).toNat<67108864):
  (fk h).toNat+18446744073709551616*(ka h).toNat=je h%340282366920938463463374607431768211456:=by
 unfold fk ka je;generalize h.getD 0 0=d at*;generalize h.getD 1 0=b at*;generalize h.getD 2 0=a at*;generalize h.getD 3 0=c at*;generalize h.getD 4 0=e at*;have j:(d|||b<<<26).toNat=d.toNat+67108864*b.toNat:=by
  rw[QQ,QN,Qj,show b.toNat*2^26%2^64=2^26*b.toNat by omega,Qn,<-Qa (i:=26) oo];omega
 have k:(d|||b<<<26|||a<<<52).toNat=d.toNat+67108864*b.toNat+4503599627370496*(a.toNat%4096):=by
  rw[QQ,j,QN,Qj,show a.toNat*2^52%2^64=2^52*(a.toNat%4096) by omega,Qn,<-Qa (i:=52) oo];omega
 have f:(a>>>12|||c<<<14).toNat=a.toNat/4096+16384*c.toNat:=by
  rw[QQ,QO,QN,Qe,Qj,show c.toNat*2^14%2^64=2^14*c.toNat by omega,Qn,<-Qa (i:=14) oo];omega
 have g:(a>>>12|||c<<<14|||e<<<40).toNat=a.toNat/4096+16384*c.toNat+1099511627776*(e.toNat%16777216):=by
  rw[QQ,f,QN,Qj,show e.toNat*2^40%2^64=2^40*(e.toNat%16777216) by omega,Qn,<-Qa (i:=40) oo];omega
 rw[k,g];omega
def mX(g:Nat->Nat):Nat->Nat
 |0=>0
 |k+1=>mX g k+256^k*g k
def bV(l:List Nat)(k:Nat):Nat:=mX (λi=>l.getD i 0) k
theorem ua{f g:Nat->Nat}:∀k,(∀j,j<k->f j=g j)->mX f k=mX g k
 |0,_=>rfl
 |k+1,h=>by rw[mX,mX,ua k (λj a=>h j (by omega)),h k (by omega)]
theorem kL(l:List Nat)(k:Nat):bV l (k+1)=bV l k+256^k*l.getD k 0:=rfl
theorem qM(l:List Nat)(j v:Nat)(a:j<l.length):∀k,j<k->bV (l.set j v) k+256^j*l.getD j 0=bV l k+256^j*v
 |0,h=>by omega
 |k+1,h=>by
  rw[kL,kL];by_cases e:j=k
  .subst e;rw[fJ _ _ _ a,show bV (l.set j v) j=bV l j from ua j (λi b=>fI _ _ _ _ (by omega))];omega
  .rw[fI _ _ _ _ e];have:=qM l j v a k oo;omega
theorem xG(l:List Nat)(j v k:Nat)(h:k<=j):bV (l.set j v) k=bV l k:=ua k (λi a=>fI _ _ _ _ oo)
theorem Hj(g:Nat->Nat):∀k,(∀i,i<k->g i<=255)->mX g k<256^k
 |0,_=>by show 0<1;omega
 |k+1,h=>by
  have a:=Hj g k (λi c=>h i oo);have h2:=h k oo;rw[mX,Qq];have b:256^k*g k<=256^k*255:=Nat.mul_le_mul_left _ h2;omega
theorem CU(l:List Nat)(c:Nat)(b:16<l.length):∀k,k<=16->bV (bg l c k).1 k+256^k*(bg l c k).2=bV l k+c
 |0,_=>by show 0+256^0*c=0+c;omega
 |k+1,d=>by
  have e:=CU l c b k oo;have a:=kG l c k k nR;rw[bg,tb,a];show bV ((bg l c k).1.set k ((l.getD k 0+(bg l c k).2)%256)) (k+1)+256^(k+1)*((l.getD k 0+(bg l c k).2)/256)=bV l (k+1)+c
  rw[kL,kL,xG _ _ _ _ nR,fJ _ _ _ (by rw[gj];omega),Qq,Qk,Qm,<-Qc,Qi,Qc];omega
theorem wY(l:List Nat)(g:l.length=17):bV (bf l) 17+dV*(fT l/4)=bV l 17:=by
 have f:=CU l 0 oo 16 oo;have o:(dJ l).length=17:=by rw[tC,g]
 have h2:=CU (dJ l) (fT l/4*5) oo 16 oo;have a:bV (dJ l) 16=bV (bg l 0 16).1 16:=by unfold dJ;exact xG _ _ _ _ nR
 have b:=kG l 0 16 16 nR;have c:(bg (dJ l) (fT l/4*5) 16).1.getD 16 0=fT l%4:=by
  rw[kG _ _ 16 16 nR];unfold dJ;exact fJ _ _ _ (by rw[gj];omega)
 have p:fT l=l.getD 16 0+(bg l 0 16).2:=by unfold fT;rw[b]
 rw[kL (bf l) 16,kL l 16];have d:bV (bf l) 16=bV (bg (dJ l) (fT l/4*5) 16).1 16:=by unfold bf;exact xG _ _ _ _ nR
 have e:(bf l).getD 16 0=fT l%4+(bg (dJ l) (fT l/4*5) 16).2:=by
  unfold bf;rw[fJ _ _ _ (by rw[gj];omega),c]
 rw[d,e];rw[a]at h2;unfold dV;have h:(256:Nat)^16=340282366920938463463374607431768211456:=dd
 rw[h]at f h2|-;generalize bV (bg (dJ l) (fT l/4*5) 16).1 16=i at*;generalize (bg (dJ l) (fT l/4*5) 16).2=j at*;generalize bV (bg l 0 16).1 16=k at*;generalize (bg l 0 16).2=n at*;generalize fT l=m at*;omega
theorem OP(a b c:List Nat)(i k:Nat)(l:c.length=17)(m:i<17)(n:k<17):∃q,bV (rh a b c i k) 17+dV*q=bV c 17+256^i*a.getD i 0*(256^k*b.getD k 0):=by
 have e:256^i*a.getD i 0*(256^k*b.getD k 0)=256^(i+k)*(a.getD i 0*b.getD k 0):=by rw[QC];simp only[Qk,Qz,QB]
 rw[e];unfold rh;by_cases h:i+k<17
 .rw[if_pos h];have d:=qM c (i+k) (c.getD (i+k) 0+a.getD i 0*b.getD k 0) oo 17 h;rw[Qc]at d;exact⟨0,oo⟩
 .rw[if_neg h,Qk 320];have d:=qM c (i+k-17) (c.getD (i+k-17) 0+320*(a.getD i 0*b.getD k 0)) oo 17 oo;rw[Qc]at d;refine⟨64*(256^(i+k-17)*(a.getD i 0*b.getD k 0)),?_⟩;have f:256^(i+k)=87112285931760246646623899502532662132736*256^(i+k-17):=by
   rw[show i+k=17+(i+k-17) by omega,QC,show 17+(i+k-17)-17=i+k-17 by omega]
  have j:256^(i+k)*(a.getD i 0*b.getD k 0)=87112285931760246646623899502532662132736*(256^(i+k-17)*(a.getD i 0*b.getD k 0)):=by rw[f,Qk]
  rw[j];have g:256^(i+k-17)*(320*(a.getD i 0*b.getD k 0))=320*(256^(i+k-17)*(a.getD i 0*b.getD k 0)):=by rw[Qz]
  rw[g]at d;generalize 256^(i+k-17)*(a.getD i 0*b.getD k 0)=z at*;unfold dV;omega
theorem Gl(a b c:List Nat)(i:Nat)(d:c.length=17)(e:i<17):∀k,k<=17-> ∃q,bV (nj a b c i k) 17+dV*q=bV c 17+256^i*a.getD i 0*bV b k
 |0,_=>⟨0,by show bV c 17+dV*0=bV c 17+256^i*a.getD i 0*0;omega⟩
 |k+1,j=>by
  obtain⟨f,h⟩:=Gl a b c i d e k oo;obtain⟨g,h2⟩:=OP a b (nj a b c i k) i k (by rw[tA,d]) e oo;refine⟨f+g,?_⟩;rw[nj,kL b k,Qc,Qc];omega
theorem EA(a b:List Nat):∀i,i<=17-> ∃q,bV (dM a b i) 17+dV*q=bV a i*bV b 17
 |0,_=>⟨0,by show bV Po_none17 17+dV*0=0*bV b 17;rw[Nat.zero_mul];rfl⟩
 |i+1,f=>by
  obtain⟨c,e⟩:=EA a b i oo;obtain⟨d,h2⟩:=Gl a b (dM a b i) i (iI a b i) oo 17 oo;refine⟨c+d,?_⟩;rw[dM,kL a i,Nat.add_mul,Qc];omega
theorem OM(a b:List Nat):∃q,bV (ms a b) 17+dV*q=bV a 17*bV b 17:=by
 obtain⟨c,d⟩:=EA a b 17 oo;have h2:=wY (dM a b 17) (iI a b 17);have e:=wY (bf (dM a b 17)) (by rw[ou,iI]);refine⟨fT (bf (dM a b 17))/4+(fT (dM a b 17)/4+c),?_⟩;unfold ms;rw[Qc,Qc];omega
theorem I6(d:Nat->Nat)(h:List Nat)(b:h.length=17):∀k,k<=16->bV (iD d h k) 17=bV h 17+mX d k
 |0,_=>rfl
 |k+1,c=>by
  have e:=I6 d h b k oo;have a:=qM (iD d h k) k ((iD d h k).getD k 0+d k) (by rw[pg];omega) 17 oo;rw[Qc]at a;rw[iD,mX];omega
theorem K8(d:Nat->Nat)(h:List Nat)(b:h.length=17):bV (i8 d h) 17=bV h 17+mX d 16+340282366920938463463374607431768211456:=by
 have h0:=I6 d h b 16 oo;have a:=qM (iD d h 16) 16 ((iD d h 16).getD 16 0+1) (by rw[pg];omega) 17 oo;rw[Qc,show (256:Nat)^16=340282366920938463463374607431768211456 by decide]at a;unfold i8;omega
theorem IW(l:List Nat)(a:l.length=17):∀k,k<=16->bV (dG l k) 17=bV l 17
 |0,_=>rfl
 |k+1,d=>by
  have f:=IW l a k oo;have e:(dG l k).length=17:=by rw[n9,a]
  have b:=qM (dG l k) (k+1) ((dG l k).getD (k+1) 0+(dG l k).getD k 0/256) oo 17 oo;have h2:=qM ((dG l k).set (k+1) ((dG l k).getD (k+1) 0+(dG l k).getD k 0/256)) k ((dG l k).getD k 0%256) (by rw[QJ];omega) 17 oo;rw[fI _ _ _ _ oo]at h2;rw[Qc,Qq,Qk (256^k) 256 ((dG l k).getD k 0/256)]at b;have c:256^k*(dG l k).getD k 0=256^k*((dG l k).getD k 0%256)+256^k*(256*((dG l k).getD k 0/256)):=by rw[<-Qc,Qi]
  rw[dG,zA];omega
theorem IY(l:List Nat)(a:l.length=17):∀k i,k<=16->i<k->(dG l k).getD i 0<=255
 |0,i,_,h=>by omega
 |k+1,i,b,h=>by
  rw[dG,zA];by_cases e:k=i
  .subst e;rw[fJ _ _ _ (by rw[QJ,n9];omega)];omega
  .rw[fI _ _ _ _ e,fI _ _ _ _ (by omega)];exact IY l a k i (by omega) (by omega)
theorem OQ(l:List Nat)(g:l.length=17)(n:∀i,l.getD i 0<=100000000000000):bV (iZ l) 16=(bV l 17%dV)%340282366920938463463374607431768211456:=by
 have a:=oL l g n;have o:=wY l g;have p:bV l 17%dV=bV (bf l) 17%dV:=by rw[<-o,Qp]
 have j:(jm l).length=17:=by unfold jm;rw[QJ,a.1]
 have r:bV (jm l) 17=bV (bf l) 17+5:=by
  have:=qM (bf l) 0 ((bf l).getD 0 0+5) (by rw[a.1];omega) 17 oo;unfold jm;rw[Nat.pow_zero]at this;omega
 have h:=IW (jm l) j 16 oo;have d:=Hj (λi=>(iY l).getD i 0) 16 (λi c=>IY (jm l) j 16 i oo c);have b:=Hj (λi=>(bf l).getD i 0) 16 (λi c=>a.2.1 i c);have q:=a.2.2;have k:bV (iY l) 17=bV (iY l) 16+256^16*(iY l).getD 16 0:=kL _ _;have m:bV (bf l) 17=bV (bf l) 16+256^16*(bf l).getD 16 0:=kL _ _;replace h:bV (iY l) 17=bV (jm l) 17:=h;replace d:bV (iY l) 16<256^16:=d;replace b:bV (bf l) 16<256^16:=b;rw[show (256:Nat)^16=340282366920938463463374607431768211456 by decide]at k m d b;rw[p];unfold iZ;by_cases f:4<=(iY l).getD 16 0
 .rw[if_pos f,xG _ _ _ _ nR];have e:bV (bf l) 17%dV=bV (bf l) 17-dV:=by
   unfold dV;rw[Nat.mod_eq_sub_mod oo,Qd oo]
  rw[e];unfold dV;omega
 .rw[if_neg f];have e:bV (bf l) 17%dV=bV (bf l) 17:=by
   unfold dV;exact Qd oo
  rw[e];omega
theorem I3(h:List Nat)(s:Nat->Nat):∀k,aR (eD h s k).1+256^k*(eD h s k).2=bV h k+mX s k
 |0=>rfl
 |k+1=>by
  have a:=I3 h s k;rw[eD];show aR ((eD h s k).1++ [QV (((eD h s k).2+h.getD k 0+s k)%256)])+256^(k+1)*(((eD h s k).2+h.getD k 0+s k)/256)=_
  rw[kN,rI,kL,mX];show aR (eD h s k).1+256^k*((QV (((eD h s k).2+h.getD k 0+s k)%256)).toNat+256*0)+256^(k+1)*(((eD h s k).2+h.getD k 0+s k)/256)=_
  rw[QW,Qd (by omega:((eD h s k).2+h.getD k 0+s k)%256<256),Qx,Qy,Qq,Qk,Qm,<-Qc,Qi,Qc,Qc];omega
theorem CR(f:Nat->Nat):∀k i,k<=17->(iC f k).getD i 0=if i<k then f i else 0
 |0,i,_=>by rw[iC,sW,if_neg (by omega)]
 |k+1,i,a=>by
  rw[iC];by_cases e:k=i
  .subst e;rw[fJ _ _ _ (by rw[tB];omega),if_pos (by omega)]
  .rw[fI _ _ _ _ e,CR f k i (by omega)];by_cases h:i<k
   .rw[if_pos h,if_pos (by omega)]
   .rw[if_neg h,if_neg (by omega)]
theorem Rt(f:Nat->Nat):bV (kC f) 17=mX (lu f) 16:=by
 unfold kC;rw[kL,CR _ 16 16 oo,if_neg oo,Qx,Qy];exact ua 16 (λi a=>by rw[CR _ 16 i oo,if_pos a])
theorem zR(x y a b k:Nat)(c:x<2^k)(d:a<2^k):(2^k*y+x)&&&(2^k*b+a)=2^k*(y&&&b)+(x&&&a):=by
 apply Nat.eq_of_testBit_eq
 intro j;have e:x&&&a<2^k:=Nat.lt_of_le_of_lt Nat.and_le_left c;rw[Qt,Qo _ c,Qo _ d,Qo _ e];by_cases h:j<k
 .rw[if_pos h,if_pos h,if_pos h,Qt]
 .rw[if_neg h,if_neg h,if_neg h,Qt]
theorem UP(X:Nat):X&&&1152921487695413247=X%268435456+17179869184*(X/17179869184%67108864):=by
 have e:=zR (X%17179869184) (X/17179869184) 268435455 67108863 34 oo dd;rw[show 2^34*(X/17179869184)+X%17179869184=X by omega,show 2^34*67108863+268435455=1152921487695413247 by decide]at e;rw[e,show (67108863:Nat)=2^26-1 by decide,Qg,show (268435455:Nat)=2^28-1 by decide,Qg];omega
theorem UQ(X:Nat):X&&&1152921487695413244=4*(X/4%67108864)+17179869184*(X/17179869184%67108864):=by
 have e:=zR (X%17179869184) (X/17179869184) 268435452 67108863 34 oo dd;rw[show 2^34*(X/17179869184)+X%17179869184=X by omega,show 2^34*67108863+268435452=1152921487695413244 by decide]at e;have a:=zR (X%17179869184%4) (X%17179869184/4) 0 67108863 2 oo dd;rw[show 2^2*(X%17179869184/4)+X%17179869184%4=X%17179869184 by omega,show 2^2*67108863+0=268435452 by decide,Nat.and_zero]at a;rw[e,a,show (67108863:Nat)=2^26-1 by decide,Qg,Qg];omega
def UM(g:Nat->Nat):Nat:=g 0+256*g 1+65536*g 2+16777216*g 3+4294967296*g 4+1099511627776*g 5+281474976710656*g 6+72057594037927936*g 7
theorem Hn(g:Nat->Nat):mX g 16=UM g+18446744073709551616*UM (λi=>g (8+i)):=by
 simp only[mX,UM,Nat.reducePow,Nat.reduceAdd];omega
theorem Sh(a b c d e f g h:Nat)(i:a<256)(j:b<256)(k:c<256)(l:d<256)(m:e<256)(n:f<256)(o:g<256)(_:h<256):
  (a+256*b+65536*c+16777216*d+4294967296*e+1099511627776*f+281474976710656*g+72057594037927936*h)%268435456+17179869184*((a+256*b+65536*c+16777216*d+4294967296*e+1099511627776*f+281474976710656*g+72057594037927936*h)/17179869184%67108864)
   =a+256*b+65536*c+16777216*(d%16)+4294967296*(e-e%4)+1099511627776*f+281474976710656*g+72057594037927936*(h%16):=oo
theorem Si(a b c d e f g h:Nat)(i:a<256)(j:b<256)(k:c<256)(l:d<256)(m:e<256)(n:f<256)(o:g<256)(_:h<256):
  4*((a+256*b+65536*c+16777216*d+4294967296*e+1099511627776*f+281474976710656*g+72057594037927936*h)/4%67108864)+17179869184*((a+256*b+65536*c+16777216*d+4294967296*e+1099511627776*f+281474976710656*g+72057594037927936*h)/17179869184%67108864)
   =(a-a%4)+256*b+65536*c+16777216*(d%16)+4294967296*(e-e%4)+1099511627776*f+281474976710656*g+72057594037927936*(h%16):=oo
theorem UL(f:Nat->UInt8):je (ug f)=bV (kC (λi=>(f i).toNat)) 17/\(ug f).length=5/\ ∀i,((ug f).getD i 0).toNat<67108864:=by
 obtain⟨a,h2,b,c,d,e⟩:=DQ (ci f 8&&&1152921487695413247) (ci (λi=>f (8+i)) 8&&&1152921487695413244) 0 dd;refine⟨?_,rfl,λi=>?_⟩
 .rw[Rt,Hn];show je (iL _ _ _)=_
  rw[a,QT,QT,show (1152921487695413247:BitVec 64).toNat=1152921487695413247 from rfl,show (1152921487695413244:BitVec 64).toNat=1152921487695413244 from rfl,tM,tM,UP,UQ];unfold AF;rw[Sh _ _ _ _ _ _ _ _ (f 0).toNat_lt (f 1).toNat_lt (f 2).toNat_lt (f 3).toNat_lt (f 4).toNat_lt (f 5).toNat_lt (f 6).toNat_lt (f 7).toNat_lt,
   Si _ _ _ _ _ _ _ _ (f (8+0)).toNat_lt (f (8+1)).toNat_lt (f (8+2)).toNat_lt (f (8+3)).toNat_lt (f (8+4)).toNat_lt (f (8+5)).toNat_lt (f (8+6)).toNat_lt (f (8+7)).toNat_lt]
  rfl
 .match i with
  |0=>exact h2
  |1=>exact b
  |2=>exact c
  |3=>exact d
  |4=>exact e
  |n+5=>show(0:BitVec 64).toNat<_;decide
theorem Pn(l:Qu)(a:l.length=16):je (eT l)=mX (λi=>(l.getD i 0).toNat) 16+340282366920938463463374607431768211456/\zS (eT l):=by
 unfold eT AD pk;rw[if_pos a,if_pos a];obtain⟨b,h2,f,c,d,e⟩:=DQ (ci (λi=>l.getD i 0) 8) (ci (λi=>l.getD (8+i) 0) 8) 1 dd;refine⟨?_,rfl,h2,oo,c,d,e⟩;rw[b,tM,tM,Hn];rfl
theorem Sb(x y:Qv):jf x y 2=dj x.toNat 8++dj y.toNat 8:=by
 apply List.ext_getElem?
 intro j;by_cases h:j<16
 .have a:j<(jf x y 2).length:=by rw[pI];exact h
  have h2:j<(dj x.toNat 8++dj y.toNat 8).length:=by rw[QM,cJ,cJ];omega
  have e:(jf x y 2).getD j 0=(dj x.toNat 8++dj y.toNat 8).getD j 0:=by
   show(eg (eg (aq 16) 0 x 8) 8 y 8).getD j 0=_
   rw[Da _ _ _ _ _ (by rw[jp];show 8+8<=16;omega),Da _ _ _ _ _ (by show 0+8<=16;omega)];by_cases b:j<8
   .rw[if_neg oo,if_pos oo,QH,List.getElem?_append_left (by rw[cJ];exact b),<-QH,Db _ _ _ b,Nat.sub_zero,Bb]
   .rw[if_pos oo,QH,List.getElem?_append_right (by rw[cJ];omega),cJ,<-QH,Db _ _ _ oo,Bb]
  rw[QH,QH,QI a,QI h2]at e;rw[QI a,QI h2];exact congrArg some e
 .rw[QL (by rw[pI];omega),QL (by rw[QM,cJ,cJ];omega)]
theorem Ll(h:Ql)(a b:Qv)(h0:(h.getD 0 0).toNat<67108864)(f:(h.getD 1 0).toNat<67108864)(h2:(h.getD 2 0).toNat<67108864)(g:(h.getD 3 0).toNat<67108864)(i:(h.getD 4 0).toNat<67108864):
  aR (kO h a b)=(je h+(a.toNat+18446744073709551616*b.toNat))%340282366920938463463374607431768211456:=by
 have n:=Sf h h0 f h2 g i;have k:=(fk h).isLt;have j:=(ka h).isLt;have l:=a.isLt;have m:=b.isLt;unfold kO;rw[Sb,kN,AE,AE,cJ];have c:(Fj h a).toNat=((fk h).toNat+a.toNat)%18446744073709551616:=by
  unfold Fj;rw[QR,QR,show (0:BitVec 64).toNat=0 from rfl];omega
 have d:(pj (fk h) a 0).toNat=((fk h).toNat+a.toNat)/18446744073709551616:=by
  unfold pj;rw[QU,show (0:BitVec 64).toNat=0 from rfl];omega
 have e:(C9 h a b).toNat=((ka h).toNat+b.toNat+((fk h).toNat+a.toNat)/18446744073709551616)%18446744073709551616:=by
  unfold C9;rw[QR,QR,d];omega
 rw[c,e,show (256:Nat)^8=18446744073709551616 by decide];generalize (fk h).toNat=L at*;generalize (ka h).toNat=H at*;generalize je h=V at*;omega
theorem MW(s:Qb)(j i:Nat)(h:16*j+16<=s.size)(a:i<16):(s.extract (16*j) (16*j+16)).data.toList.getD i 0=s.data.toList.getD (16*j+i) 0:=by
 rw[<-gh _ _ (by rw[QY];omega),<-gh s (16*j+i) oo];simp[QZ]
theorem Nn(r:List Nat)(a:Ql)(D:Nat->Nat->Nat)(s:Qb)(e:je a=bV r 17)(f:∀i,r.getD i 0<=1023)(c:a.length=5)(d:∀i,(a.getD i 0).toNat<67108864)
  (b:∀j i,D j i=byN s (16*j+i)):∀n,16*n<=s.size->zS (gZ a s n)/\je (gZ a s n)%dV=bV (jk r D n) 17%dV
 |0,_=>⟨⟨rfl,by show(0:BitVec 64).toNat<_;decide,by show(0:BitVec 64).toNat<_;decide,by show(0:BitVec 64).toNat<_;decide,by show(0:BitVec 64).toNat<_;decide,by show(0:BitVec 64).toNat<_;decide⟩,rfl⟩
 |n+1,h=>by
  obtain⟨v,h2⟩:=Nn r a D s e f c d b n oo;have y:(s.extract (16*n) (16*n+16)).data.toList.length=16:=by
   have:(s.extract (16*n) (16*n+16)).size=16:=by rw[QY];omega
   rw[Array.length_toList];exact this
  obtain⟨z,A⟩:=Pn _ y;obtain⟨g,k,l⟩:=Sd v A;obtain⟨B,E,C⟩:=Pj k l c d;have w:=yO r D f (λj i=>by rw[b];exact tT _ _) n;have m:=K8 (D n) (jk r D n) w.1;obtain⟨F,o⟩:=OM (i8 (D n) (jk r D n)) r;refine⟨B,?_⟩;have p:je (gZ a s (n+1))%dV=(je (jq (gZ a s n) (eT (s.extract (16*n) (16*n+16)).data.toList))*je a)%dV:=by
   rw[<-C,Qp];rfl
  have q:bV (jk r D (n+1)) 17%dV=(bV (i8 (D n) (jk r D n)) 17*bV r 17)%dV:=by
   rw[<-o,Qp];rfl
  rw[p,q,g,m,z,e];have t:mX (λi=>((s.extract (16*n) (16*n+16)).data.toList.getD i 0).toNat) 16=mX (D n) 16:=ua 16 (λi x=>by rw[b];unfold byN;rw[MW s n i oo x]);rw[t,<-Qm];have u:(je (gZ a s n)+mX (D n) 16+340282366920938463463374607431768211456)%dV=(bV (jk r D n) 17+mX (D n) 16+340282366920938463463374607431768211456)%dV:=by
   rw[Qm,Qm,QE,h2,<-QE]
  rw[QD,u,<-QD]
theorem Fo:Bo:=by
 intro f s v x;obtain⟨r,t,u⟩:=UL f;have b:∀i,(kC (λi=>(f i).toNat)).getD i 0<=1023:=λi=>by
  have:=CQ (lu (λi=>(f i).toNat)) 255 (Mg _ (λi=>by have:=(f i).toNat_lt;omega)) 16 i;show(iC (lu (λi=>(f i).toNat)) 16).getD i 0<=1023
  omega
 obtain⟨p,q⟩:=Nn _ _ (λj i=>byN s (16*j+i)) s r b t u (λ_ _=>rfl) (s.size/16) oo;have a:Po_Byt (jk (kC (λi=>(f i).toNat)) (λj i=>byN s (16*j+i)) (s.size/16)):=yO _ _ b (λj i=>tT _ _) _;have d:=OQ _ a.1 (λi=>by have:=a.all i;omega);obtain⟨h,k,l,m,n,o⟩:=Lp p;have c:=I3 (iZ (jk (kC (λi=>(f i).toNat)) (λj i=>byN s (16*j+i)) (s.size/16))) (λi=>(f (16+i)).toNat) 16;have e:=Ll (fC (gZ (ug f) s (s.size/16))) (ci (λi=>f (16+i)) 8) (ci (λi=>f (24+i)) 8) k l m n o;refine pu ?_ ?_
 .rw[ux];exact rI _ _ _
 .show aR (eD _ _ 16).1=aR (kO _ _ _)
  rw[e,h,q,tM,tM];have w:aR (eD (iZ (jk (kC (λi=>(f i).toNat)) (λj i=>byN s (16*j+i)) (s.size/16))) (λi=>(f (16+i)).toNat) 16).1<340282366920938463463374607431768211456:=by
   have:=pq (eD (iZ (jk (kC (λi=>(f i).toNat)) (λj i=>byN s (16*j+i)) (s.size/16))) (λi=>(f (16+i)).toNat) 16).1;rw[rI]at this;exact this
  have g:mX (λi=>(f (16+i)).toNat) 16=AF (λi=>f (16+i))+18446744073709551616*AF (λi=>f (24+i)):=by
   rw[Hn];rfl
  rw[d,g,show (256:Nat)^16=340282366920938463463374607431768211456 by decide]at c;generalize aR (eD (iZ (jk (kC (λi=>(f i).toNat)) (λj i=>byN s (16*j+i)) (s.size/16))) (λi=>(f (16+i)).toNat) 16).1=N at*;generalize bV (jk (kC (λi=>(f i).toNat)) (λj i=>byN s (16*j+i)) (s.size/16)) 17%dV=V at*;generalize AF (λi=>f (16+i))+18446744073709551616*AF (λi=>f (24+i))=K at*;generalize (eD (iZ (jk (kC (λi=>(f i).toNat)) (λj i=>byN s (16*j+i)) (s.size/16))) (λi=>(f (16+i)).toNat) 16).2=C at*;omega
end Go.Proofs.YtclpbaokadfhhaaGreatDoor
