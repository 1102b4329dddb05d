import Derived.Test.YtclpbaokadfhhaaGreatDoorZv
set_option maxHeartbeats 1000000
namespace Go.Proofs.YtclpbaokadfhhaaGreatDoor
namespace Cc
def P130:Nat:=1361129467683753853853498429727072845819
def v5(l:List (BitVec 64)):Nat:=(l.getD 0 0).toNat+67108864*(l.getD 1 0).toNat+4503599627370496*(l.getD 2 0).toNat+302231454903657293676544*(l.getD 3 0).toNat+20282409603651670423947251286016*(l.getD 4 0).toNat
theorem orL_add(a:BitVec 64)(x:UInt8)(k:Nat)(hk:k≤56)(ha:a.toNat<2^k):(a|||BitVec.ofNat 64 x.toNat<<<k).toNat=a.toNat+2^k*x.toNat:=by
 have hx:=x.toNat_lt;have h1:2^k≤2^56:=Nat.pow_le_pow_right (by omega) hk;have h2:x.toNat*2^k<2^64:=by
  have:x.toNat*2^k≤255*2^56:=Nat.mul_le_mul (by omega) h1;omega
 rw[BitVec.toNat_or,BitVec.toNat_shiftLeft,BitVec.toNat_ofNat,Nat.mod_eq_of_lt (by omega:x.toNat<2^64),Nat.shiftLeft_eq,Nat.mod_eq_of_lt h2,Nat.or_comm,Nat.mul_comm,←Nat.two_pow_add_eq_or_of_lt ha,Nat.add_comm]
def n8(f:Nat→UInt8):Nat:=(f 0).toNat+256*(f 1).toNat+65536*(f 2).toNat+16777216*(f 3).toNat+4294967296*(f 4).toNat+1099511627776*(f 5).toNat+281474976710656*(f 6).toNat+72057594037927936*(f 7).toNat
theorem AE(f:Nat→UInt8):(wdL f 8).toNat=n8 f:=by
 have x0:=(f 0).toNat_lt;have x1:=(f 1).toNat_lt;have x2:=(f 2).toNat_lt;have x3:=(f 3).toNat_lt;have x4:=(f 4).toNat_lt;have x5:=(f 5).toNat_lt;have x6:=(f 6).toNat_lt;have x7:=(f 7).toNat_lt;have e0:=orL_add 0 (f 0) 0 (by omega) (by decide);have z:(0:BitVec 64).toNat=0:=rfl;have e1:=orL_add _ (f 1) 8 (by omega) (by rw[e0];omega);have e2:=orL_add _ (f 2) 16 (by omega) (by rw[e1,e0];omega);have e3:=orL_add _ (f 3) 24 (by omega) (by rw[e2,e1,e0];omega);have e4:=orL_add _ (f 4) 32 (by omega) (by rw[e3,e2,e1,e0];omega);have e5:=orL_add _ (f 5) 40 (by omega) (by rw[e4,e3,e2,e1,e0];omega);have e6:=orL_add _ (f 6) 48 (by omega) (by rw[e5,e4,e3,e2,e1,e0];omega);have e7:=orL_add _ (f 7) 56 (by omega) (by rw[e6,e5,e4,e3,e2,e1,e0];omega);show(((((((((0:BitVec 64)|||BitVec.ofNat 64 (f 0).toNat<<<0)|||BitVec.ofNat 64 (f 1).toNat<<<8)|||BitVec.ofNat 64 (f 2).toNat<<<16)|||BitVec.ofNat 64 (f 3).toNat<<<24)|||BitVec.ofNat 64 (f 4).toNat<<<32)|||BitVec.ofNat 64 (f 5).toNat<<<40)|||BitVec.ofNat 64 (f 6).toNat<<<48)|||BitVec.ofNat 64 (f 7).toNat<<<56).toNat=n8 f
 rw[e7,e6,e5,e4,e3,e2,e1,e0];unfold n8;omega
theorem m26(x:BitVec 64):(x&&&67108863).toNat=x.toNat%67108864:=by
 rw[BitVec.toNat_and,show (67108863:BitVec 64).toNat=2^26 - 1 from rfl,Nat.and_two_pow_sub_one_eq_mod]
theorem number_val(lo hi ab:BitVec 64)(hab:ab.toNat≤1):v5 (ym lo hi ab)=lo.toNat+18446744073709551616*hi.toNat+340282366920938463463374607431768211456*ab.toNat∧
  (((ym lo hi ab).getD 0 0).toNat<67108864∧((ym lo hi ab).getD 1 0).toNat<67108864∧((ym lo hi ab).getD 2 0).toNat<67108864∧((ym lo hi ab).getD 3 0).toNat<67108864∧((ym lo hi ab).getD 4 0).toNat<67108864):=by
 have hl:=lo.isLt;have hh:=hi.isLt;have e0:(lo&&&67108863).toNat=lo.toNat%67108864:=m26 lo;have e1:(lo>>>26&&&67108863).toNat=lo.toNat/67108864%67108864:=by rw[m26,BitVec.toNat_ushiftRight,Nat.shiftRight_eq_div_pow]
 have e2:((lo>>>52|||hi<<<12)&&&67108863).toNat=(lo.toNat/4503599627370496+4096*hi.toNat)%67108864:=by
  rw[m26,BitVec.toNat_or,BitVec.toNat_ushiftRight,BitVec.toNat_shiftLeft,Nat.shiftRight_eq_div_pow,Nat.shiftLeft_eq];rw[show hi.toNat*2^12%2^64=2^12*(hi.toNat%2^52) by omega,Nat.or_comm,←Nat.two_pow_add_eq_or_of_lt (i:=12) (by omega)];omega
 have e3:(hi>>>14&&&67108863).toNat=hi.toNat/16384%67108864:=by rw[m26,BitVec.toNat_ushiftRight,Nat.shiftRight_eq_div_pow]
 have e4:(hi>>>40|||ab<<<24).toNat=hi.toNat/1099511627776+16777216*ab.toNat:=by
  rw[BitVec.toNat_or,BitVec.toNat_ushiftRight,BitVec.toNat_shiftLeft,Nat.shiftRight_eq_div_pow,Nat.shiftLeft_eq];rw[show ab.toNat*2^24%2^64=2^24*ab.toNat by omega,Nat.or_comm,←Nat.two_pow_add_eq_or_of_lt (i:=24) (by omega)];omega
 unfold v5 ym;simp only[List.getD_cons_zero,List.getD_cons_succ];rw[e0,e1,e2,e3,e4];omega
def Nar(l:List (BitVec 64)):Prop:=l.length=5∧(l.getD 0 0).toNat<67108864∧(l.getD 1 0).toNat<134217728∧(l.getD 2 0).toNat<67108864∧(l.getD 3 0).toNat<67108864∧(l.getD 4 0).toNat<67108864
theorem plus_eq(a0 a1 a2 a3 a4 b0 b1 b2 b3 b4:BitVec 64):plus [a0,a1,a2,a3,a4] [b0,b1,b2,b3,b4]= [a0+b0,a1+b1,a2+b2,a3+b3,a4+b4]:=rfl
theorem add_nat(x y:BitVec 64)(h:x.toNat+y.toNat<18446744073709551616):(x+y).toNat=x.toNat+y.toNat:=by rw[BitVec.toNat_add];exact Nat.mod_eq_of_lt h
theorem mul_nat(x y:BitVec 64)(h:x.toNat*y.toNat<18446744073709551616):(x*y).toNat=x.toNat*y.toNat:=by rw[BitVec.toNat_mul];exact Nat.mod_eq_of_lt h
theorem plus_val{a b:List (BitVec 64)}(ha:Nar a)(hb:Nar b):v5 (plus a b)=v5 a+v5 b∧(plus a b).length=5∧ ∀i,((plus a b).getD i 0).toNat<268435456:=by
 obtain⟨a0,a1,a2,a3,a4,rfl⟩:=cv a ha.1;obtain⟨b0,b1,b2,b3,b4,rfl⟩:=cv b hb.1;obtain⟨_,ha0,ha1,ha2,ha3,ha4⟩:=ha;obtain⟨_,hb0,hb1,hb2,hb3,hb4⟩:=hb;simp only[List.getD_cons_zero,List.getD_cons_succ]at ha0 ha1 ha2 ha3 ha4 hb0 hb1 hb2 hb3 hb4;have e0:=add_nat a0 b0 (by omega);have e1:=add_nat a1 b1 (by omega);have e2:=add_nat a2 b2 (by omega);have e3:=add_nat a3 b3 (by omega);have e4:=add_nat a4 b4 (by omega);rw[plus_eq];refine⟨?_,rfl,fun i=> ?_⟩
 ·unfold v5;simp only[List.getD_cons_zero,List.getD_cons_succ];rw[e0,e1,e2,e3,e4];omega
 ·match i with
  |0=>show(a0+b0).toNat<_;omega
  |1=>show(a1+b1).toNat<_;omega
  |2=>show(a2+b2).toNat<_;omega
  |3=>show(a3+b3).toNat<_;omega
  |4=>show(a4+b4).toNat<_;omega
  |n+5=>show(0:BitVec 64).toNat<_;decide
theorem carry_eq(a0 a1 a2 a3 a4:BitVec 64):carry [a0,a1,a2,a3,a4]= [(((a0+(0:BitVec 64))&&&(67108863:BitVec 64))+(5:BitVec 64)*(a4+(a3+(a2+(a1+(a0+(0:BitVec 64))>>>26)>>>26)>>>26)>>>26)>>>26)&&&(67108863:BitVec 64),((a1+(a0+(0:BitVec 64))>>>26)&&&(67108863:BitVec 64))+(((a0+(0:BitVec 64))&&&(67108863:BitVec 64))+(5:BitVec 64)*(a4+(a3+(a2+(a1+(a0+(0:BitVec 64))>>>26)>>>26)>>>26)>>>26)>>>26)>>>26,(a2+(a1+(a0+(0:BitVec 64))>>>26)>>>26)&&&(67108863:BitVec 64),(a3+(a2+(a1+(a0+(0:BitVec 64))>>>26)>>>26)>>>26)&&&(67108863:BitVec 64),(a4+(a3+(a2+(a1+(a0+(0:BitVec 64))>>>26)>>>26)>>>26)>>>26)&&&(67108863:BitVec 64)]:=rfl
theorem shr26(x:BitVec 64):(x>>>26).toNat=x.toNat/67108864:=by rw[BitVec.toNat_ushiftRight,Nat.shiftRight_eq_div_pow]
theorem carry_val{l:List (BitVec 64)}(hl:l.length=5)(hb: ∀i,(l.getD i 0).toNat<1152921504606846976):Nar (carry l)∧ ∃k,v5 (carry l)+P130*k=v5 l:=by
 obtain⟨a0,a1,a2,a3,a4,rfl⟩:=cv l hl;have h0:=hb 0;have h1:=hb 1;have h2:=hb 2;have h3:=hb 3;have h4:=hb 4;simp only[List.getD_cons_zero,List.getD_cons_succ]at h0 h1 h2 h3 h4;rw[carry_eq];have z0:a0+(0:BitVec 64)=a0:=BitVec.add_zero a0;rw[z0];have q0:=shr26 a0;have s1:=add_nat a1 (a0>>>26) (by omega);generalize a1+a0>>>26=x1 at s1⊢;have q1:=shr26 x1;have s2:=add_nat a2 (x1>>>26) (by omega);generalize a2+x1>>>26=x2 at s2⊢;have q2:=shr26 x2;have s3:=add_nat a3 (x2>>>26) (by omega);generalize a3+x2>>>26=x3 at s3⊢;have q3:=shr26 x3;have s4:=add_nat a4 (x3>>>26) (by omega);generalize a4+x3>>>26=x4 at s4⊢;have q4:=shr26 x4;have m0:=m26 a0;have m1:=m26 x1;have m2:=m26 x2;have m3:=m26 x3;have m4:=m26 x4;have t5:=mul_nat (5:BitVec 64) (x4>>>26) (by rw[show (5:BitVec 64).toNat=5 from rfl];omega);rw[show (5:BitVec 64).toNat=5 from rfl]at t5;have s5:=add_nat (a0&&&(67108863:BitVec 64)) ((5:BitVec 64)*x4>>>26) (by omega);generalize (a0&&&(67108863:BitVec 64))+(5:BitVec 64)*x4>>>26=y0 at s5⊢;have q5:=shr26 y0;have m5:=m26 y0;have s6:=add_nat (x1&&&(67108863:BitVec 64)) (y0>>>26) (by omega);refine⟨⟨rfl,?_,?_,?_,?_,?_⟩,(x4>>>26).toNat,?_⟩
 ·show(y0&&&67108863).toNat<_;omega
 ·show((x1&&&(67108863:BitVec 64))+y0>>>26).toNat<_;omega
 ·show(x2&&&67108863).toNat<_;omega
 ·show(x3&&&67108863).toNat<_;omega
 ·show(x4&&&67108863).toNat<_;omega
 ·unfold v5 P130;simp only[List.getD_cons_zero,List.getD_cons_succ];omega
theorem row_0(a0 a1 a2 a3 a4 b0 b1 b2 b3 b4 s0 s1 s2 s3 s4:BitVec 64):rowT [a0,a1,a2,a3,a4] [b0,b1,b2,b3,b4] [s0,s1,s2,s3,s4] 0 5= [s0+a0*b0,s1+a0*b1,s2+a0*b2,s3+a0*b3,s4+a0*b4]:=rfl
theorem row_1(a0 a1 a2 a3 a4 b0 b1 b2 b3 b4 s0 s1 s2 s3 s4:BitVec 64):rowT [a0,a1,a2,a3,a4] [b0,b1,b2,b3,b4] [s0,s1,s2,s3,s4] 1 5= [s0+(5:BitVec 64)*(a1*b4),s1+a1*b0,s2+a1*b1,s3+a1*b2,s4+a1*b3]:=rfl
theorem row_2(a0 a1 a2 a3 a4 b0 b1 b2 b3 b4 s0 s1 s2 s3 s4:BitVec 64):rowT [a0,a1,a2,a3,a4] [b0,b1,b2,b3,b4] [s0,s1,s2,s3,s4] 2 5= [s0+(5:BitVec 64)*(a2*b3),s1+(5:BitVec 64)*(a2*b4),s2+a2*b0,s3+a2*b1,s4+a2*b2]:=rfl
theorem row_3(a0 a1 a2 a3 a4 b0 b1 b2 b3 b4 s0 s1 s2 s3 s4:BitVec 64):rowT [a0,a1,a2,a3,a4] [b0,b1,b2,b3,b4] [s0,s1,s2,s3,s4] 3 5= [s0+(5:BitVec 64)*(a3*b2),s1+(5:BitVec 64)*(a3*b3),s2+(5:BitVec 64)*(a3*b4),s3+a3*b0,s4+a3*b1]:=rfl
theorem row_4(a0 a1 a2 a3 a4 b0 b1 b2 b3 b4 s0 s1 s2 s3 s4:BitVec 64):rowT [a0,a1,a2,a3,a4] [b0,b1,b2,b3,b4] [s0,s1,s2,s3,s4] 4 5= [s0+(5:BitVec 64)*(a4*b1),s1+(5:BitVec 64)*(a4*b2),s2+(5:BitVec 64)*(a4*b3),s3+(5:BitVec 64)*(a4*b4),s4+a4*b0]:=rfl
theorem timesTo_eq(a0 a1 a2 a3 a4 b0 b1 b2 b3 b4:BitVec 64):timesTo [a0,a1,a2,a3,a4] [b0,b1,b2,b3,b4] 5= [((((((0:BitVec 64)+a0*b0)+(5:BitVec 64)*(a1*b4))+(5:BitVec 64)*(a2*b3))+(5:BitVec 64)*(a3*b2))+(5:BitVec 64)*(a4*b1)),((((((0:BitVec 64)+a0*b1)+a1*b0)+(5:BitVec 64)*(a2*b4))+(5:BitVec 64)*(a3*b3))+(5:BitVec 64)*(a4*b2)),((((((0:BitVec 64)+a0*b2)+a1*b1)+a2*b0)+(5:BitVec 64)*(a3*b4))+(5:BitVec 64)*(a4*b3)),((((((0:BitVec 64)+a0*b3)+a1*b2)+a2*b1)+a3*b0)+(5:BitVec 64)*(a4*b4)),((((((0:BitVec 64)+a0*b4)+a1*b3)+a2*b2)+a3*b1)+a4*b0)]:=by
 show rowT [a0,a1,a2,a3,a4] [b0,b1,b2,b3,b4] (rowT [a0,a1,a2,a3,a4] [b0,b1,b2,b3,b4] (rowT [a0,a1,a2,a3,a4] [b0,b1,b2,b3,b4] (rowT [a0,a1,a2,a3,a4] [b0,b1,b2,b3,b4] (rowT [a0,a1,a2,a3,a4] [b0,b1,b2,b3,b4] [0,0,0,0,0] 0 5) 1 5) 2 5) 3 5) 4 5=_
 rw[row_0,row_1,row_2,row_3,row_4]
end Cc
namespace Cc
theorem convN(X A0 A1 A2 A3 A4 B0 B1 B2 B3 B4:Nat):(A0+X*A1+X*X*A2+X*X*X*A3+X*X*X*X*A4)*(B0+X*B1+X*X*B2+X*X*X*B3+X*X*X*X*B4)=(A0*B0)+X*(A0*B1+A1*B0)+X*X*(A0*B2+A1*B1+A2*B0)+X*X*X*(A0*B3+A1*B2+A2*B1+A3*B0)+X*X*X*X*(A0*B4+A1*B3+A2*B2+A3*B1+A4*B0)+X*X*X*X*X*((A1*B4+A2*B3+A3*B2+A4*B1)+X*(A2*B4+A3*B3+A4*B2)+X*X*(A3*B4+A4*B3)+X*X*X*(A4*B4)):=by grind
theorem sum5(x0 x1 x2 x3 x4:BitVec 64)(h0:x0.toNat<1152921504606846976)(h1:x1.toNat<1152921504606846976)(h2:x2.toNat<1152921504606846976)(h3:x3.toNat<1152921504606846976)(h4:x4.toNat<1152921504606846976):
  ((((((0:BitVec 64)+x0)+x1)+x2)+x3)+x4).toNat=x0.toNat+x1.toNat+x2.toNat+x3.toNat+x4.toNat:=by
 have z:((0:BitVec 64)+x0)=x0:=BitVec.zero_add x0;rw[z];have e1:=add_nat x0 x1 (by omega);have e2:=add_nat (x0+x1) x2 (by omega);have e3:=add_nat (x0+x1+x2) x3 (by omega);have e4:=add_nat (x0+x1+x2+x3) x4 (by omega);omega
theorem pr(x y:BitVec 64)(hx:x.toNat<268435456)(hy:y.toNat<67108864):(x*y).toNat=x.toNat*y.toNat∧((5:BitVec 64)*(x*y)).toNat=5*(x.toNat*y.toNat)∧x.toNat*y.toNat≤18014398509481984:=by
 have hb:x.toNat*y.toNat≤268435456*67108864:=Nat.mul_le_mul (by omega) (by omega);have e1:=mul_nat x y (by omega);have e2:=mul_nat (5:BitVec 64) (x*y) (by rw[e1,show (5:BitVec 64).toNat=5 from rfl];omega);rw[e1,show (5:BitVec 64).toNat=5 from rfl]at e2;exact⟨e1,e2,by omega⟩
theorem times_val{a b:List (BitVec 64)}(ha:a.length=5)(hA: ∀i,(a.getD i 0).toNat<268435456)(hb:b.length=5)(hB: ∀i,(b.getD i 0).toNat<67108864):Nar (times a b)∧ ∃k,v5 (times a b)+P130*k=v5 a*v5 b:=by
 obtain⟨a0,a1,a2,a3,a4,rfl⟩:=cv a ha;obtain⟨b0,b1,b2,b3,b4,rfl⟩:=cv b hb;have ha0:=hA 0;have ha1:=hA 1;have ha2:=hA 2;have ha3:=hA 3;have ha4:=hA 4;have hb0:=hB 0;have hb1:=hB 1;have hb2:=hB 2;have hb3:=hB 3;have hb4:=hB 4;simp only[List.getD_cons_zero,List.getD_cons_succ]at ha0 ha1 ha2 ha3 ha4 hb0 hb1 hb2 hb3 hb4;unfold times;rw[timesTo_eq];obtain⟨p00,f00,w00⟩:=pr a0 b0 ha0 hb0;obtain⟨p01,f01,w01⟩:=pr a0 b1 ha0 hb1;obtain⟨p02,f02,w02⟩:=pr a0 b2 ha0 hb2;obtain⟨p03,f03,w03⟩:=pr a0 b3 ha0 hb3;obtain⟨p04,f04,w04⟩:=pr a0 b4 ha0 hb4;obtain⟨p10,f10,w10⟩:=pr a1 b0 ha1 hb0;obtain⟨p11,f11,w11⟩:=pr a1 b1 ha1 hb1;obtain⟨p12,f12,w12⟩:=pr a1 b2 ha1 hb2;obtain⟨p13,f13,w13⟩:=pr a1 b3 ha1 hb3;obtain⟨p14,f14,w14⟩:=pr a1 b4 ha1 hb4;obtain⟨p20,f20,w20⟩:=pr a2 b0 ha2 hb0;obtain⟨p21,f21,w21⟩:=pr a2 b1 ha2 hb1;obtain⟨p22,f22,w22⟩:=pr a2 b2 ha2 hb2;obtain⟨p23,f23,w23⟩:=pr a2 b3 ha2 hb3;obtain⟨p24,f24,w24⟩:=pr a2 b4 ha2 hb4;obtain⟨p30,f30,w30⟩:=pr a3 b0 ha3 hb0;obtain⟨p31,f31,w31⟩:=pr a3 b1 ha3 hb1;obtain⟨p32,f32,w32⟩:=pr a3 b2 ha3 hb2;obtain⟨p33,f33,w33⟩:=pr a3 b3 ha3 hb3;obtain⟨p34,f34,w34⟩:=pr a3 b4 ha3 hb4;obtain⟨p40,f40,w40⟩:=pr a4 b0 ha4 hb0;obtain⟨p41,f41,w41⟩:=pr a4 b1 ha4 hb1;obtain⟨p42,f42,w42⟩:=pr a4 b2 ha4 hb2;obtain⟨p43,f43,w43⟩:=pr a4 b3 ha4 hb3;obtain⟨p44,f44,w44⟩:=pr a4 b4 ha4 hb4;have s0:=sum5 (a0*b0) ((5:BitVec 64)*(a1*b4)) ((5:BitVec 64)*(a2*b3)) ((5:BitVec 64)*(a3*b2)) ((5:BitVec 64)*(a4*b1)) (by omega) (by omega) (by omega) (by omega) (by omega);rw[p00,f14,f23,f32,f41]at s0;generalize ((((((0:BitVec 64)+(a0*b0))+((5:BitVec 64)*(a1*b4)))+((5:BitVec 64)*(a2*b3)))+((5:BitVec 64)*(a3*b2)))+((5:BitVec 64)*(a4*b1)))=t0 at s0⊢;have s1:=sum5 (a0*b1) (a1*b0) ((5:BitVec 64)*(a2*b4)) ((5:BitVec 64)*(a3*b3)) ((5:BitVec 64)*(a4*b2)) (by omega) (by omega) (by omega) (by omega) (by omega);rw[p01,p10,f24,f33,f42]at s1;generalize ((((((0:BitVec 64)+(a0*b1))+(a1*b0))+((5:BitVec 64)*(a2*b4)))+((5:BitVec 64)*(a3*b3)))+((5:BitVec 64)*(a4*b2)))=t1 at s1⊢;have s2:=sum5 (a0*b2) (a1*b1) (a2*b0) ((5:BitVec 64)*(a3*b4)) ((5:BitVec 64)*(a4*b3)) (by omega) (by omega) (by omega) (by omega) (by omega);rw[p02,p11,p20,f34,f43]at s2;generalize ((((((0:BitVec 64)+(a0*b2))+(a1*b1))+(a2*b0))+((5:BitVec 64)*(a3*b4)))+((5:BitVec 64)*(a4*b3)))=t2 at s2⊢;have s3:=sum5 (a0*b3) (a1*b2) (a2*b1) (a3*b0) ((5:BitVec 64)*(a4*b4)) (by omega) (by omega) (by omega) (by omega) (by omega);rw[p03,p12,p21,p30,f44]at s3;generalize ((((((0:BitVec 64)+(a0*b3))+(a1*b2))+(a2*b1))+(a3*b0))+((5:BitVec 64)*(a4*b4)))=t3 at s3⊢;have s4:=sum5 (a0*b4) (a1*b3) (a2*b2) (a3*b1) (a4*b0) (by omega) (by omega) (by omega) (by omega) (by omega);rw[p04,p13,p22,p31,p40]at s4;generalize ((((((0:BitVec 64)+(a0*b4))+(a1*b3))+(a2*b2))+(a3*b1))+(a4*b0))=t4 at s4⊢;have hv:v5 [a0,a1,a2,a3,a4]*v5 [b0,b1,b2,b3,b4]=(a0.toNat*b0.toNat)+67108864*(a0.toNat*b1.toNat+a1.toNat*b0.toNat)+4503599627370496*(a0.toNat*b2.toNat+a1.toNat*b1.toNat+a2.toNat*b0.toNat)+302231454903657293676544*(a0.toNat*b3.toNat+a1.toNat*b2.toNat+a2.toNat*b1.toNat+a3.toNat*b0.toNat)+20282409603651670423947251286016*(a0.toNat*b4.toNat+a1.toNat*b3.toNat+a2.toNat*b2.toNat+a3.toNat*b1.toNat+a4.toNat*b0.toNat)+1361129467683753853853498429727072845824*((a1.toNat*b4.toNat+a2.toNat*b3.toNat+a3.toNat*b2.toNat+a4.toNat*b1.toNat)+67108864*(a2.toNat*b4.toNat+a3.toNat*b3.toNat+a4.toNat*b2.toNat)+4503599627370496*(a3.toNat*b4.toNat+a4.toNat*b3.toNat)+302231454903657293676544*(a4.toNat*b4.toNat)):=by
  have h:=convN 67108864 (a0.toNat) (a1.toNat) (a2.toNat) (a3.toNat) (a4.toNat) (b0.toNat) (b1.toNat) (b2.toNat) (b3.toNat) (b4.toNat);simp only[Nat.reduceMul]at h;exact h
 clear p00 f00 p01 f01 p02 f02 p03 f03 p04 f04 p10 f10 p11 f11 p12 f12 p13 f13 p14 f14 p20 f20 p21 f21 p22 f22 p23 f23 p24 f24 p30 f30 p31 f31 p32 f32 p33 f33 p34 f34 p40 f40 p41 f41 p42 f42 p43 f43 p44 f44 hA hB;generalize a0.toNat*b0.toNat=e00 at w00 s0 hv;generalize a0.toNat*b1.toNat=e01 at w01 s1 hv;generalize a0.toNat*b2.toNat=e02 at w02 s2 hv;generalize a0.toNat*b3.toNat=e03 at w03 s3 hv;generalize a0.toNat*b4.toNat=e04 at w04 s4 hv;generalize a1.toNat*b0.toNat=e10 at w10 s1 hv;generalize a1.toNat*b1.toNat=e11 at w11 s2 hv;generalize a1.toNat*b2.toNat=e12 at w12 s3 hv;generalize a1.toNat*b3.toNat=e13 at w13 s4 hv;generalize a1.toNat*b4.toNat=e14 at w14 s0 hv;generalize a2.toNat*b0.toNat=e20 at w20 s2 hv;generalize a2.toNat*b1.toNat=e21 at w21 s3 hv;generalize a2.toNat*b2.toNat=e22 at w22 s4 hv;generalize a2.toNat*b3.toNat=e23 at w23 s0 hv;generalize a2.toNat*b4.toNat=e24 at w24 s1 hv;generalize a3.toNat*b0.toNat=e30 at w30 s3 hv;generalize a3.toNat*b1.toNat=e31 at w31 s4 hv;generalize a3.toNat*b2.toNat=e32 at w32 s0 hv;generalize a3.toNat*b3.toNat=e33 at w33 s1 hv;generalize a3.toNat*b4.toNat=e34 at w34 s2 hv;generalize a4.toNat*b0.toNat=e40 at w40 s4 hv;generalize a4.toNat*b1.toNat=e41 at w41 s0 hv;generalize a4.toNat*b2.toNat=e42 at w42 s1 hv;generalize a4.toNat*b3.toNat=e43 at w43 s2 hv;generalize a4.toNat*b4.toNat=e44 at w44 s3 hv;obtain⟨hn,k,hk⟩:=carry_val (l:= [t0,t1,t2,t3,t4]) rfl (fun i=>by
  match i with
  |0=>show t0.toNat<_;omega
  |1=>show t1.toNat<_;omega
  |2=>show t2.toNat<_;omega
  |3=>show t3.toNat<_;omega
  |4=>show t4.toNat<_;omega
  |n+5=>show(0:BitVec 64).toNat<_;decide)
 refine⟨hn,k+((e14+e23+e32+e41)+67108864*(e24+e33+e42)+4503599627370496*(e34+e43)+302231454903657293676544*(e44)),?_⟩;rw[hv,Nat.mul_add,←Nat.add_assoc,hk];unfold v5 P130;simp only[List.getD_cons_zero,List.getD_cons_succ];omega
theorem carTo_eq(a0 a1 a2 a3 a4 o:BitVec 64):(carTo [a0,a1,a2,a3,a4] o 5).1= [(a0+o)&&&(67108863:BitVec 64),(a1+(a0+o)>>>26)&&&(67108863:BitVec 64),(a2+(a1+(a0+o)>>>26)>>>26)&&&(67108863:BitVec 64),(a3+(a2+(a1+(a0+o)>>>26)>>>26)>>>26)&&&(67108863:BitVec 64),(a4+(a3+(a2+(a1+(a0+o)>>>26)>>>26)>>>26)>>>26)&&&(67108863:BitVec 64)]:=rfl
theorem held_eq(a0 a1 a2 a3 a4:BitVec 64):wu [a0,a1,a2,a3,a4] 5=(a4+(a3+(a2+(a1+(a0+(5:BitVec 64))>>>26)>>>26)>>>26)>>>26)>>>26:=rfl
theorem lowest_eq(a0 a1 a2 a3 a4:BitVec 64):lowest [a0,a1,a2,a3,a4]= [(a0+((5:BitVec 64)*(a4+(a3+(a2+(a1+(a0+(5:BitVec 64))>>>26)>>>26)>>>26)>>>26)>>>26))&&&(67108863:BitVec 64),(a1+(a0+((5:BitVec 64)*(a4+(a3+(a2+(a1+(a0+(5:BitVec 64))>>>26)>>>26)>>>26)>>>26)>>>26))>>>26)&&&(67108863:BitVec 64),(a2+(a1+(a0+((5:BitVec 64)*(a4+(a3+(a2+(a1+(a0+(5:BitVec 64))>>>26)>>>26)>>>26)>>>26)>>>26))>>>26)>>>26)&&&(67108863:BitVec 64),(a3+(a2+(a1+(a0+((5:BitVec 64)*(a4+(a3+(a2+(a1+(a0+(5:BitVec 64))>>>26)>>>26)>>>26)>>>26)>>>26))>>>26)>>>26)>>>26)&&&(67108863:BitVec 64),(a4+(a3+(a2+(a1+(a0+((5:BitVec 64)*(a4+(a3+(a2+(a1+(a0+(5:BitVec 64))>>>26)>>>26)>>>26)>>>26)>>>26))>>>26)>>>26)>>>26)>>>26)&&&(67108863:BitVec 64)]:=by
 unfold lowest;rw[carTo_eq,held_eq]
theorem chain5(A0 A1 A2 A3 A4 O Z0 Z1 Z2 Z3 Z4:Nat)(u0:Z0=A0+O)(u1:Z1=A1+Z0/67108864)(u2:Z2=A2+Z1/67108864)(u3:Z3=A3+Z2/67108864)(u4:Z4=A4+Z3/67108864):
  A0+67108864*A1+4503599627370496*A2+302231454903657293676544*A3+20282409603651670423947251286016*A4+O=Z0%67108864+67108864*(Z1%67108864)+4503599627370496*(Z2%67108864)+302231454903657293676544*(Z3%67108864)+20282409603651670423947251286016*(Z4%67108864)+1361129467683753853853498429727072845824*(Z4/67108864):=by
 have e0:=Nat.mod_add_div Z0 67108864;have e1:=Nat.mod_add_div Z1 67108864;have e2:=Nat.mod_add_div Z2 67108864;have e3:=Nat.mod_add_div Z3 67108864;have e4:=Nat.mod_add_div Z4 67108864;generalize Z0%67108864=M0 at*;generalize Z1%67108864=M1 at*;generalize Z2%67108864=M2 at*;generalize Z3%67108864=M3 at*;generalize Z4%67108864=M4 at*;generalize Z0/67108864=D0 at*;generalize Z1/67108864=D1 at*;generalize Z2/67108864=D2 at*;generalize Z3/67108864=D3 at*;generalize Z4/67108864=D4 at*;omega
theorem low_fin(A0 A1 A2 A3 A4 Y0 Y1 Y2 Y3 Y4 Z0 Z1 Z2 Z3 Z4 O5:Nat)(h0:A0<67108864)(h1:A1<134217728)(h2:A2<67108864)(h3:A3<67108864)(h4:A4<67108864)
  (s0:Y0=A0+5) (s1:Y1=A1+Y0/67108864) (s2:Y2=A2+Y1/67108864) (s3:Y3=A3+Y2/67108864) (s4:Y4=A4+Y3/67108864) (t5:O5=5*(Y4/67108864))
  (u0:Z0=A0+O5) (u1:Z1=A1+Z0/67108864) (u2:Z2=A2+Z1/67108864) (u3:Z3=A3+Z2/67108864) (u4:Z4=A4+Z3/67108864):
  Z0%67108864+67108864*(Z1%67108864)+4503599627370496*(Z2%67108864)+302231454903657293676544*(Z3%67108864)+20282409603651670423947251286016*(Z4%67108864)=(A0+67108864*A1+4503599627370496*A2+302231454903657293676544*A3+20282409603651670423947251286016*A4)%1361129467683753853853498429727072845819:=by
 have c1:=chain5 A0 A1 A2 A3 A4 5 Y0 Y1 Y2 Y3 Y4 s0 s1 s2 s3 s4;have c2:=chain5 A0 A1 A2 A3 A4 O5 Z0 Z1 Z2 Z3 Z4 u0 u1 u2 u3 u4;have hV:A0+67108864*A1+4503599627370496*A2+302231454903657293676544*A3+20282409603651670423947251286016*A4<2722258935367507707706996859454145691638:=by omega
 have y0:=Nat.mod_lt Y0 (show 67108864>0 by decide);have y1:=Nat.mod_lt Y1 (show 67108864>0 by decide);have y2:=Nat.mod_lt Y2 (show 67108864>0 by decide);have y3:=Nat.mod_lt Y3 (show 67108864>0 by decide);have y4:=Nat.mod_lt Y4 (show 67108864>0 by decide);have z0:=Nat.mod_lt Z0 (show 67108864>0 by decide);have z1:=Nat.mod_lt Z1 (show 67108864>0 by decide);have z2:=Nat.mod_lt Z2 (show 67108864>0 by decide);have z3:=Nat.mod_lt Z3 (show 67108864>0 by decide);have z4:=Nat.mod_lt Z4 (show 67108864>0 by decide);generalize A0+67108864*A1+4503599627370496*A2+302231454903657293676544*A3+20282409603651670423947251286016*A4=V at*;clear s0 s1 s2 s3 s4 u0 u1 u2 u3 u4 h0 h1 h2 h3 h4;generalize Y0%67108864=M0 at*;generalize Y1%67108864=M1 at*;generalize Y2%67108864=M2 at*;generalize Y3%67108864=M3 at*;generalize Y4%67108864=M4 at*;generalize Y4/67108864=H at*;generalize Z0%67108864=N0 at*;generalize Z1%67108864=N1 at*;generalize Z2%67108864=N2 at*;generalize Z3%67108864=N3 at*;generalize Z4%67108864=N4 at*;generalize Z4/67108864=D at*;have hH:H≤1:=by omega
 have hL:N0+67108864*N1+4503599627370496*N2+302231454903657293676544*N3+20282409603651670423947251286016*N4<1361129467683753853853498429727072845824:=by omega
 have hM:M0+67108864*M1+4503599627370496*M2+302231454903657293676544*M3+20282409603651670423947251286016*M4<1361129467683753853853498429727072845824:=by omega
 generalize N0+67108864*N1+4503599627370496*N2+302231454903657293676544*N3+20282409603651670423947251286016*N4=L at*;generalize M0+67108864*M1+4503599627370496*M2+302231454903657293676544*M3+20282409603651670423947251286016*M4=M at*;have hc:H=0∨H=1:=by omega
 rcases hc with rfl|rfl
 ·have hD:D=0:=by omega
  subst hD;rw[Nat.mod_eq_of_lt (by omega)];omega
 ·have hD:D=1:=by omega
  subst hD;have hVL:V=1361129467683753853853498429727072845819+L:=by omega
  rw[hVL,Nat.add_mod_left,Nat.mod_eq_of_lt (by omega)]
theorem A5{a:List (BitVec 64)}(h:Nar a):v5 (lowest a)=v5 a%P130∧((lowest a).getD 0 0).toNat<67108864∧((lowest a).getD 1 0).toNat<67108864∧((lowest a).getD 2 0).toNat<67108864∧((lowest a).getD 3 0).toNat<67108864∧((lowest a).getD 4 0).toNat<67108864:=by
 obtain⟨hl,h0,h1,h2,h3,h4⟩:=h;obtain⟨a0,a1,a2,a3,a4,rfl⟩:=cv a hl;simp only[List.getD_cons_zero,List.getD_cons_succ]at h0 h1 h2 h3 h4;rw[lowest_eq];have s0:=add_nat a0 (5:BitVec 64) (by rw[show (5:BitVec 64).toNat=5 from rfl];omega);rw[show (5:BitVec 64).toNat=5 from rfl]at s0;generalize a0+(5:BitVec 64)=y0 at s0⊢;have q0:=shr26 y0;have s1:=add_nat a1 (y0>>>26) (by omega);generalize a1+y0>>>26=y1 at s1⊢;have q1:=shr26 y1;have s2:=add_nat a2 (y1>>>26) (by omega);generalize a2+y1>>>26=y2 at s2⊢;have q2:=shr26 y2;have s3:=add_nat a3 (y2>>>26) (by omega);generalize a3+y2>>>26=y3 at s3⊢;have q3:=shr26 y3;have s4:=add_nat a4 (y3>>>26) (by omega);generalize a4+y3>>>26=y4 at s4⊢;have q4:=shr26 y4;have t5:=mul_nat (5:BitVec 64) (y4>>>26) (by rw[show (5:BitVec 64).toNat=5 from rfl];omega);rw[show (5:BitVec 64).toNat=5 from rfl]at t5;generalize (5:BitVec 64)*y4>>>26=o5 at t5⊢;have u0:=add_nat a0 o5 (by omega);generalize a0+o5=z0 at u0⊢;have r0:=shr26 z0;have u1:=add_nat a1 (z0>>>26) (by omega);generalize a1+z0>>>26=z1 at u1⊢;have r1:=shr26 z1;have u2:=add_nat a2 (z1>>>26) (by omega);generalize a2+z1>>>26=z2 at u2⊢;have r2:=shr26 z2;have u3:=add_nat a3 (z2>>>26) (by omega);generalize a3+z2>>>26=z3 at u3⊢;have r3:=shr26 z3;have u4:=add_nat a4 (z3>>>26) (by omega);generalize a4+z3>>>26=z4 at u4⊢;have m0:=m26 z0;have m1:=m26 z1;have m2:=m26 z2;have m3:=m26 z3;have m4:=m26 z4;unfold v5 P130;simp only[List.getD_cons_zero,List.getD_cons_succ];rw[m0,m1,m2,m3,m4];clear m0 m1 m2 m3 m4;generalize a0.toNat=A0 at*;generalize a1.toNat=A1 at*;generalize a2.toNat=A2 at*;generalize a3.toNat=A3 at*;generalize a4.toNat=A4 at*;rw[q0]at s1;rw[q1]at s2;rw[q2]at s3;rw[q3]at s4;rw[q4]at t5;rw[r0]at u1;rw[r1]at u2;rw[r2]at u3;rw[r3]at u4;clear q0 q1 q2 q3 q4 r0 r1 r2 r3;generalize y0.toNat=Y0 at*;generalize y1.toNat=Y1 at*;generalize y2.toNat=Y2 at*;generalize y3.toNat=Y3 at*;generalize y4.toNat=Y4 at*;generalize z0.toNat=Z0 at*;generalize z1.toNat=Z1 at*;generalize z2.toNat=Z2 at*;generalize z3.toNat=Z3 at*;generalize z4.toNat=Z4 at*;generalize o5.toNat=O5 at*;refine⟨low_fin A0 A1 A2 A3 A4 Y0 Y1 Y2 Y3 Y4 Z0 Z1 Z2 Z3 Z4 O5 h0 h1 h2 h3 h4 s0 s1 s2 s3 s4 t5 u0 u1 u2 u3 u4,Nat.mod_lt _ (by decide),Nat.mod_lt _ (by decide),Nat.mod_lt _ (by decide),Nat.mod_lt _ (by decide),Nat.mod_lt _ (by decide)⟩
theorem num_lo(n:Nat): ∀k,Sc.num (Fd.lo n k)=n%256^k
 |0=>by show 0=n%1;omega
 |k+1=>by
  rw[Fd.lo,Fd.u6,num_lo n k,Fd.tV];show n%256^k+256^k*((UInt8.ofNat (n/256^k%256)).toNat+256*0)=_
  rw[UInt8.toNat_ofNat',Nat.mod_eq_of_lt (by omega:n/256^k%256<256),Nat.mul_zero,Nat.add_zero,Nat.mod_pow_succ]
theorem low_word(h:List (BitVec 64))(h0:(h.getD 0 0).toNat<67108864)(h1:(h.getD 1 0).toNat<67108864)(h2:(h.getD 2 0).toNat<67108864)(h3:(h.getD 3 0).toNat<67108864)(_h4:(h.getD 4 0).toNat<67108864):
  (vj h).toNat+18446744073709551616*(wP h).toNat=v5 h%340282366920938463463374607431768211456:=by
 unfold vj wP v5;generalize h.getD 0 0=x0 at*;generalize h.getD 1 0=x1 at*;generalize h.getD 2 0=x2 at*;generalize h.getD 3 0=x3 at*;generalize h.getD 4 0=x4 at*;have l1:(x0|||x1<<<26).toNat=x0.toNat+67108864*x1.toNat:=by
  rw[BitVec.toNat_or,BitVec.toNat_shiftLeft,Nat.shiftLeft_eq,show x1.toNat*2^26%2^64=2^26*x1.toNat by omega,Nat.or_comm,←Nat.two_pow_add_eq_or_of_lt (i:=26) (by omega)];omega
 have l2:(x0|||x1<<<26|||x2<<<52).toNat=x0.toNat+67108864*x1.toNat+4503599627370496*(x2.toNat%4096):=by
  rw[BitVec.toNat_or,l1,BitVec.toNat_shiftLeft,Nat.shiftLeft_eq,show x2.toNat*2^52%2^64=2^52*(x2.toNat%4096) by omega,Nat.or_comm,←Nat.two_pow_add_eq_or_of_lt (i:=52) (by omega)];omega
 have g1:(x2>>>12|||x3<<<14).toNat=x2.toNat/4096+16384*x3.toNat:=by
  rw[BitVec.toNat_or,BitVec.toNat_ushiftRight,BitVec.toNat_shiftLeft,Nat.shiftRight_eq_div_pow,Nat.shiftLeft_eq,show x3.toNat*2^14%2^64=2^14*x3.toNat by omega,Nat.or_comm,←Nat.two_pow_add_eq_or_of_lt (i:=14) (by omega)];omega
 have g2:(x2>>>12|||x3<<<14|||x4<<<40).toNat=x2.toNat/4096+16384*x3.toNat+1099511627776*(x4.toNat%16777216):=by
  rw[BitVec.toNat_or,g1,BitVec.toNat_shiftLeft,Nat.shiftLeft_eq,show x4.toNat*2^40%2^64=2^40*(x4.toNat%16777216) by omega,Nat.or_comm,←Nat.two_pow_add_eq_or_of_lt (i:=40) (by omega)];omega
 rw[l2,g2];omega
end Cc
namespace Po
open Cc (P130)
def sn(g:Nat→Nat):Nat→Nat
 |0=>0
 |k+1=>sn g k+256^k*g k
def vl(l:List Nat)(k:Nat):Nat:=sn (fun i=>l.getD i 0) k
theorem sn_congr{f g:Nat→Nat}: ∀k,(∀j,j<k→f j=g j)→sn f k=sn g k
 |0,_=>rfl
 |k+1,h=>by rw[sn,sn,sn_congr k (fun j hj=>h j (by omega)),h k (by omega)]
theorem vl_succ(l:List Nat)(k:Nat):vl l (k+1)=vl l k+256^k*l.getD k 0:=rfl
theorem vl_set(l:List Nat)(j v:Nat)(hj:j<l.length): ∀k,j<k→vl (l.set j v) k+256^j*l.getD j 0=vl l k+256^j*v
 |0,h=>by omega
 |k+1,h=>by
  rw[vl_succ,vl_succ];by_cases e:j=k
  ·subst e;rw[xN _ _ _ hj,show vl (l.set j v) j=vl l j from sn_congr j (fun i hi=>At _ _ _ _ (by omega))];omega
  ·rw[At _ _ _ _ e];have:=vl_set l j v hj k (by omega);omega
theorem vl_above(l:List Nat)(j v k:Nat)(h:k≤j):vl (l.set j v) k=vl l k:=sn_congr k (fun i hi=>At _ _ _ _ (by omega))
theorem sn_lt(g:Nat→Nat): ∀k,(∀i,i<k→g i≤255)→sn g k<256^k
 |0,_=>by show 0<1;omega
 |k+1,h=>by
  have h1:=sn_lt g k (fun i hi=>h i (by omega));have h2:=h k (by omega);rw[sn,Nat.pow_succ];have h3:256^k*g k≤256^k*255:=Nat.mul_le_mul_left _ h2;omega
theorem cTo_val(l:List Nat)(c:Nat)(hl:16<l.length): ∀k,k≤16→vl (cTo l c k).1 k+256^k*(cTo l c k).2=vl l k+c
 |0,_=>by show 0+256^0*c=0+c;omega
 |k+1,hk=>by
  have ih:=cTo_val l c hl k (by omega);have hA:=yE l c k k nR;rw[cTo,cStep,hA];show vl ((cTo l c k).1.set k ((l.getD k 0+(cTo l c k).2)%256)) (k+1)+256^(k+1)*((l.getD k 0+(cTo l c k).2)/256)=vl l (k+1)+c
  rw[vl_succ,vl_succ,vl_above _ _ _ _ nR,xN _ _ _ (by rw[xa];omega),Nat.pow_succ,Nat.mul_assoc,Nat.add_assoc,←Nat.mul_add,Nat.mod_add_div,Nat.mul_add];omega
theorem carried_val(l:List Nat)(hl:l.length=17):vl (carried l) 17+P130*(mid l/4)=vl l 17:=by
 have h1:=cTo_val l 0 (by omega) 16 (by omega);have hh:(half l).length=17:=by rw[AQ,hl]
 have h2:=cTo_val (half l) (mid l/4*5) (by omega) 16 (by omega);have e1:vl (half l) 16=vl (cTo l 0 16).1 16:=by unfold half;exact vl_above _ _ _ _ nR
 have e2:(cTo l 0 16).1.getD 16 0=l.getD 16 0:=yE l 0 16 16 nR;have e3:(cTo (half l) (mid l/4*5) 16).1.getD 16 0=mid l%4:=by
  rw[yE _ _ 16 16 nR];unfold half;exact xN _ _ _ (by rw[xa];omega)
 have hm:mid l=l.getD 16 0+(cTo l 0 16).2:=by unfold mid;rw[e2]
 rw[vl_succ (carried l) 16,vl_succ l 16];have e4:vl (carried l) 16=vl (cTo (half l) (mid l/4*5) 16).1 16:=by unfold carried;exact vl_above _ _ _ _ nR
 have e5:(carried l).getD 16 0=mid l%4+(cTo (half l) (mid l/4*5) 16).2:=by
  unfold carried;rw[xN _ _ _ (by rw[xa];omega),e3]
 rw[e4,e5];rw[e1]at h2;unfold P130;have hp:(256:Nat)^16=340282366920938463463374607431768211456:=by decide
 rw[hp]at h1 h2⊢;generalize vl (cTo (half l) (mid l/4*5) 16).1 16=a1 at*;generalize (cTo (half l) (mid l/4*5) 16).2=a2 at*;generalize vl (cTo l 0 16).1 16=a3 at*;generalize (cTo l 0 16).2=a4 at*;generalize mid l=m at*;omega
theorem tStep_val(a b c:List Nat)(i k:Nat)(hc:c.length=17)(hi:i<17)(hk:k<17): ∃q,vl (AN a b c i k) 17+P130*q=vl c 17+256^i*a.getD i 0*(256^k*b.getD k 0):=by
 have e:256^i*a.getD i 0*(256^k*b.getD k 0)=256^(i+k)*(a.getD i 0*b.getD k 0):=by rw[Nat.pow_add];simp only[Nat.mul_assoc,Nat.mul_left_comm,Nat.mul_comm]
 rw[e];unfold AN;by_cases h:i+k<17
 ·rw[if_pos h];have h1:=vl_set c (i+k) (c.getD (i+k) 0+a.getD i 0*b.getD k 0) (by omega) 17 h;rw[Nat.mul_add]at h1;exact⟨0,by omega⟩
 ·rw[if_neg h,Nat.mul_assoc 320];have h1:=vl_set c (i+k - 17) (c.getD (i+k - 17) 0+320*(a.getD i 0*b.getD k 0)) (by omega) 17 (by omega);rw[Nat.mul_add]at h1;refine⟨64*(256^(i+k - 17)*(a.getD i 0*b.getD k 0)),?_⟩;have e2:256^(i+k)=87112285931760246646623899502532662132736*256^(i+k - 17):=by
   rw[show i+k=17+(i+k - 17) by omega,Nat.pow_add,show 17+(i+k - 17) - 17=i+k - 17 by omega]
  have e4:256^(i+k)*(a.getD i 0*b.getD k 0)=87112285931760246646623899502532662132736*(256^(i+k - 17)*(a.getD i 0*b.getD k 0)):=by rw[e2,Nat.mul_assoc]
  rw[e4];have e3:256^(i+k - 17)*(320*(a.getD i 0*b.getD k 0))=320*(256^(i+k - 17)*(a.getD i 0*b.getD k 0)):=by rw[Nat.mul_left_comm]
  rw[e3]at h1;generalize 256^(i+k - 17)*(a.getD i 0*b.getD k 0)=z at*;unfold P130;omega
theorem tRow_val(a b c:List Nat)(i:Nat)(hc:c.length=17)(hi:i<17): ∀k,k≤17→ ∃q,vl (zT a b c i k) 17+P130*q=vl c 17+256^i*a.getD i 0*vl b k
 |0,_=>⟨0,by show vl c 17+P130*0=vl c 17+256^i*a.getD i 0*0;omega⟩
 |k+1,hk=>by
  obtain⟨q1,h1⟩:=tRow_val a b c i hc hi k (by omega);obtain⟨q2,h2⟩:=tStep_val a b (zT a b c i k) i k (by rw[AO,hc]) hi (by omega);refine⟨q1+q2,?_⟩;rw[zT,vl_succ b k,Nat.mul_add,Nat.mul_add];omega
theorem tRows_val(a b:List Nat): ∀i,i≤17→ ∃q,vl (wB a b i) 17+P130*q=vl a i*vl b 17
 |0,_=>⟨0,by show vl none17 17+P130*0=0*vl b 17;rw[Nat.zero_mul];rfl⟩
 |i+1,hi=>by
  obtain⟨q1,h1⟩:=tRows_val a b i (by omega);obtain⟨q2,h2⟩:=tRow_val a b (wB a b i) i (vi a b i) (by omega) 17 (by omega);refine⟨q1+q2,?_⟩;rw[wB,vl_succ a i,Nat.add_mul,Nat.mul_add];omega
theorem times_val(a b:List Nat): ∃q,vl (times a b) 17+P130*q=vl a 17*vl b 17:=by
 obtain⟨q1,h1⟩:=tRows_val a b 17 (by omega);have h2:=carried_val (wB a b 17) (vi a b 17);have h3:=carried_val (carried (wB a b 17)) (by rw[carried_length,vi]);refine⟨mid (carried (wB a b 17))/4+(mid (wB a b 17)/4+q1),?_⟩;unfold times;rw[Nat.mul_add,Nat.mul_add];omega
theorem aTo_val(d:Nat→Nat)(h:List Nat)(hl:h.length=17): ∀k,k≤16→vl (aTo d h k) 17=vl h 17+sn d k
 |0,_=>rfl
 |k+1,hk=>by
  have ih:=aTo_val d h hl k (by omega);have h1:=vl_set (aTo d h k) k ((aTo d h k).getD k 0+d k) (by rw[zn];omega) 17 (by omega);rw[Nat.mul_add]at h1;rw[aTo,sn];omega
theorem AU(d:Nat→Nat)(h:List Nat)(hl:h.length=17):vl (wn d h) 17=vl h 17+sn d 16+340282366920938463463374607431768211456:=by
 have h0:=aTo_val d h hl 16 (by omega);have h1:=vl_set (aTo d h 16) 16 ((aTo d h 16).getD 16 0+1) (by rw[zn];omega) 17 (by omega);rw[Nat.mul_add,show (256:Nat)^16=340282366920938463463374607431768211456 by decide]at h1;unfold wn;omega
theorem oTo_val(l:List Nat)(hl:l.length=17): ∀k,k≤16→vl (oTo l k) 17=vl l 17
 |0,_=>rfl
 |k+1,hk=>by
  have ih:=oTo_val l hl k (by omega);have hlk:(oTo l k).length=17:=by rw[xX,hl]
  have h1:=vl_set (oTo l k) (k+1) ((oTo l k).getD (k+1) 0+(oTo l k).getD k 0/256) (by omega) 17 (by omega);have h2:=vl_set ((oTo l k).set (k+1) ((oTo l k).getD (k+1) 0+(oTo l k).getD k 0/256)) k ((oTo l k).getD k 0%256) (by rw[List.length_set];omega) 17 (by omega);rw[At _ _ _ _ (by omega)]at h2;rw[Nat.mul_add,Nat.pow_succ,Nat.mul_assoc (256^k) 256 ((oTo l k).getD k 0/256)]at h1;have h3:256^k*(oTo l k).getD k 0=256^k*((oTo l k).getD k 0%256)+256^k*(256*((oTo l k).getD k 0/256)):=by rw[←Nat.mul_add,Nat.mod_add_div]
  rw[oTo,oStep];omega
theorem oTo_low(l:List Nat)(hl:l.length=17): ∀k i,k≤16→i<k→(oTo l k).getD i 0≤255
 |0,i,_,h=>by omega
 |k+1,i,hk,h=>by
  rw[oTo,oStep];by_cases e:k=i
  ·subst e;rw[xN _ _ _ (by rw[List.length_set,xX];omega)];omega
  ·rw[At _ _ _ _ e,At _ _ _ _ (by omega)];exact oTo_low l hl k i (by omega) (by omega)
theorem least_val(l:List Nat)(hl:l.length=17)(hM: ∀i,l.getD i 0≤100000000000000):vl (wI l) 16=(vl l 17%P130)%340282366920938463463374607431768211456:=by
 have hB:=AR l hl hM;have hc:=carried_val l hl;have hcm:vl l 17%P130=vl (carried l) 17%P130:=by rw[←hc,Nat.add_mul_mod_self_left]
 have lD:(zm l).length=17:=by unfold zm;rw[List.length_set,hB.1]
 have hld:vl (zm l) 17=vl (carried l) 17+5:=by
  have:=vl_set (carried l) 0 ((carried l).getD 0 0+5) (by rw[hB.1];omega) 17 (by omega);unfold zm;rw[Nat.pow_zero]at this;omega
 have ho:=oTo_val (zm l) lD 16 (by omega);have hol:=sn_lt (fun i=>(xW l).getD i 0) 16 (fun i hi=>oTo_low (zm l) lD 16 i (by omega) hi);have hcl:=sn_lt (fun i=>(carried l).getD i 0) 16 (fun i hi=>hB.2.1 i hi);have hct:=hB.2.2;have e1:vl (xW l) 17=vl (xW l) 16+256^16*(xW l).getD 16 0:=vl_succ _ _;have e2:vl (carried l) 17=vl (carried l) 16+256^16*(carried l).getD 16 0:=vl_succ _ _;replace ho:vl (xW l) 17=vl (zm l) 17:=ho;replace hol:vl (xW l) 16<256^16:=hol;replace hcl:vl (carried l) 16<256^16:=hcl;rw[show (256:Nat)^16=340282366920938463463374607431768211456 by decide]at e1 e2 hol hcl;rw[hcm];unfold wI;by_cases h4:4≤(xW l).getD 16 0
 ·rw[if_pos h4,vl_above _ _ _ _ nR];have hv:vl (carried l) 17%P130=vl (carried l) 17 - P130:=by
   unfold P130;rw[Nat.mod_eq_sub_mod (by omega),Nat.mod_eq_of_lt (by omega)]
  rw[hv];unfold P130;omega
 ·rw[if_neg h4];have hv:vl (carried l) 17%P130=vl (carried l) 17:=by
   unfold P130;exact Nat.mod_eq_of_lt (by omega)
  rw[hv];omega
theorem eTo_val(h:List Nat)(s:Nat→Nat): ∀k,Sc.num (eTo h s k).1+256^k*(eTo h s k).2=vl h k+sn s k
 |0=>rfl
 |k+1=>by
  have ih:=eTo_val h s k;rw[eTo];show Sc.num ((eTo h s k).1++ [UInt8.ofNat (((eTo h s k).2+h.getD k 0+s k)%256)])+256^(k+1)*(((eTo h s k).2+h.getD k 0+s k)/256)=_
  rw[Fd.u6,xY,vl_succ,sn];show Sc.num (eTo h s k).1+256^k*((UInt8.ofNat (((eTo h s k).2+h.getD k 0+s k)%256)).toNat+256*0)+256^(k+1)*(((eTo h s k).2+h.getD k 0+s k)/256)=_
  rw[UInt8.toNat_ofNat',Nat.mod_eq_of_lt (by omega:((eTo h s k).2+h.getD k 0+s k)%256<256),Nat.mul_zero,Nat.add_zero,Nat.pow_succ,Nat.mul_assoc,Nat.add_assoc,←Nat.mul_add,Nat.mod_add_div,Nat.mul_add,Nat.mul_add];omega
theorem rowN_at(f:Nat→Nat): ∀k i,k≤17→(yZ f k).getD i 0=if i<k then f i else 0
 |0,i,_=>by rw[yZ,none_at17,if_neg (by omega)]
 |k+1,i,hk=>by
  rw[yZ];by_cases e:k=i
  ·subst e;rw[xN _ _ _ (by rw[yY];omega),if_pos (by omega)]
  ·rw[At _ _ _ _ e,rowN_at f k i (by omega)];by_cases h:i<k
   ·rw[if_pos h,if_pos (by omega)]
   ·rw[if_neg h,if_neg (by omega)]
theorem rRow_val(f:Nat→Nat):vl (xm f) 17=sn (rAt f) 16:=by
 unfold xm;rw[vl_succ,rowN_at _ 16 16 (by omega),if_neg (by omega),Nat.mul_zero,Nat.add_zero];exact sn_congr 16 (fun i hi=>by rw[rowN_at _ 16 i (by omega),if_pos hi])
end Po
end Go.Proofs.YtclpbaokadfhhaaGreatDoor
namespace Go.Proofs.YtclpbaokadfhhaaGreatDoor
namespace Cc
open Po (sn vl)
theorem and_split(x y a b k:Nat)(hx:x<2^k)(ha:a<2^k):(2^k*y+x)&&&(2^k*b+a)=2^k*(y&&&b)+(x&&&a):=by
 apply Nat.eq_of_testBit_eq
 intro j;have hxa:x&&&a<2^k:=Nat.lt_of_le_of_lt Nat.and_le_left hx;rw[Nat.testBit_and,Nat.testBit_two_pow_mul_add _ hx,Nat.testBit_two_pow_mul_add _ ha,Nat.testBit_two_pow_mul_add _ hxa];by_cases h:j<k
 ·rw[if_pos h,if_pos h,if_pos h,Nat.testBit_and]
 ·rw[if_neg h,if_neg h,if_neg h,Nat.testBit_and]
theorem mask_lo(X:Nat):X&&&1152921487695413247=X%268435456+17179869184*(X/17179869184%67108864):=by
 have e:=and_split (X%17179869184) (X/17179869184) 268435455 67108863 34 (by omega) (by decide);rw[show 2^34*(X/17179869184)+X%17179869184=X by omega,show 2^34*67108863+268435455=1152921487695413247 by decide]at e;rw[e,show (67108863:Nat)=2^26 - 1 by decide,Nat.and_two_pow_sub_one_eq_mod,show (268435455:Nat)=2^28 - 1 by decide,Nat.and_two_pow_sub_one_eq_mod];omega
theorem mask_hi(X:Nat):X&&&1152921487695413244=4*(X/4%67108864)+17179869184*(X/17179869184%67108864):=by
 have e:=and_split (X%17179869184) (X/17179869184) 268435452 67108863 34 (by omega) (by decide);rw[show 2^34*(X/17179869184)+X%17179869184=X by omega,show 2^34*67108863+268435452=1152921487695413244 by decide]at e;have e2:=and_split (X%17179869184%4) (X%17179869184/4) 0 67108863 2 (by omega) (by decide);rw[show 2^2*(X%17179869184/4)+X%17179869184%4=X%17179869184 by omega,show 2^2*67108863+0=268435452 by decide,Nat.and_zero]at e2;rw[e,e2,show (67108863:Nat)=2^26 - 1 by decide,Nat.and_two_pow_sub_one_eq_mod,Nat.and_two_pow_sub_one_eq_mod];omega
def q8(g:Nat→Nat):Nat:=g 0+256*g 1+65536*g 2+16777216*g 3+4294967296*g 4+1099511627776*g 5+281474976710656*g 6+72057594037927936*g 7
theorem sn_16(g:Nat→Nat):sn g 16=q8 g+18446744073709551616*q8 (fun i=>g (8+i)):=by
 simp only[sn,q8,Nat.reducePow,Nat.reduceAdd];omega
theorem clamp_lo(a b c d e f g h:Nat)(ha:a<256)(hb:b<256)(hc:c<256)(hd:d<256)(he:e<256)(hf:f<256)(hg:g<256)(_hh:h<256):
  (a+256*b+65536*c+16777216*d+4294967296*e+1099511627776*f+281474976710656*g+72057594037927936*h)%268435456+17179869184*((a+256*b+65536*c+16777216*d+4294967296*e+1099511627776*f+281474976710656*g+72057594037927936*h)/17179869184%67108864)
   =a+256*b+65536*c+16777216*(d%16)+4294967296*(e - e%4)+1099511627776*f+281474976710656*g+72057594037927936*(h%16):=by omega
theorem clamp_hi(a b c d e f g h:Nat)(ha:a<256)(hb:b<256)(hc:c<256)(hd:d<256)(he:e<256)(hf:f<256)(hg:g<256)(_hh:h<256):
  4*((a+256*b+65536*c+16777216*d+4294967296*e+1099511627776*f+281474976710656*g+72057594037927936*h)/4%67108864)+17179869184*((a+256*b+65536*c+16777216*d+4294967296*e+1099511627776*f+281474976710656*g+72057594037927936*h)/17179869184%67108864)
   =(a - a%4)+256*b+65536*c+16777216*(d%16)+4294967296*(e - e%4)+1099511627776*f+281474976710656*g+72057594037927936*(h%16):=by omega
theorem rOf_val(f:Nat→UInt8):v5 (rOf f)=vl (Po.xm (fun i=>(f i).toNat)) 17∧(rOf f).length=5∧ ∀i,((rOf f).getD i 0).toNat<67108864:=by
 obtain⟨h1,h2,h3,h4,h5,h6⟩:=number_val (wdL f 8&&&1152921487695413247) (wdL (fun i=>f (8+i)) 8&&&1152921487695413244) 0 (by decide);refine⟨?_,rfl,fun i=> ?_⟩
 ·rw[Po.rRow_val,sn_16];show v5 (ym _ _ _)=_
  rw[h1,BitVec.toNat_and,BitVec.toNat_and,show (1152921487695413247:BitVec 64).toNat=1152921487695413247 from rfl,show (1152921487695413244:BitVec 64).toNat=1152921487695413244 from rfl,AE,AE,mask_lo,mask_hi];unfold n8;rw[clamp_lo _ _ _ _ _ _ _ _ (f 0).toNat_lt (f 1).toNat_lt (f 2).toNat_lt (f 3).toNat_lt (f 4).toNat_lt (f 5).toNat_lt (f 6).toNat_lt (f 7).toNat_lt,
   clamp_hi _ _ _ _ _ _ _ _ (f (8+0)).toNat_lt (f (8+1)).toNat_lt (f (8+2)).toNat_lt (f (8+3)).toNat_lt (f (8+4)).toNat_lt (f (8+5)).toNat_lt (f (8+6)).toNat_lt (f (8+7)).toNat_lt]
  rfl
 ·match i with
  |0=>exact h2
  |1=>exact h3
  |2=>exact h4
  |3=>exact h5
  |4=>exact h6
  |n+5=>show(0:BitVec 64).toNat<_;decide
theorem piece_val(l:List UInt8)(hl:l.length=16):v5 (piece l)=sn (fun i=>(l.getD i 0).toNat) 16+340282366920938463463374607431768211456∧Nar (piece l):=by
 unfold piece BF yP;rw[if_pos hl,if_pos hl];obtain⟨h1,h2,h3,h4,h5,h6⟩:=number_val (wdL (fun i=>l.getD i 0) 8) (wdL (fun i=>l.getD (8+i) 0) 8) 1 (by decide);refine⟨?_,rfl,h2,by omega,h4,h5,h6⟩;rw[h1,AE,AE,sn_16];rfl
theorem tell2_lo(x y:BitVec 64):wO x y 2=Fd.lo x.toNat 8++Fd.lo y.toNat 8:=by
 apply List.ext_getElem?
 intro j;by_cases h:j<16
 ·have h1:j<(wO x y 2).length:=by rw[yN];exact h
  have h2:j<(Fd.lo x.toNat 8++Fd.lo y.toNat 8).length:=by rw[List.length_append,Fd.tV,Fd.tV];omega
  have e:(wO x y 2).getD j 0=(Fd.lo x.toNat 8++Fd.lo y.toNat 8).getD j 0:=by
   show(yw (yw (ag 16) 0 x 8) 8 y 8).getD j 0=_
   rw[putL_at _ _ _ _ _ (by rw[xJ];show 8+8≤16;omega),putL_at _ _ _ _ _ (by show 0+8≤16;omega)];by_cases h8:j<8
   ·rw[if_neg (by omega),if_pos (by omega),List.getD_eq_getElem?_getD,List.getElem?_append_left (by rw[Fd.tV];exact h8),←List.getD_eq_getElem?_getD,lo_at _ _ _ h8,Nat.sub_zero,byteL_lo]
   ·rw[if_pos (by omega),List.getD_eq_getElem?_getD,List.getElem?_append_right (by rw[Fd.tV];omega),Fd.tV,←List.getD_eq_getElem?_getD,lo_at _ _ _ (by omega),byteL_lo]
  rw[List.getD_eq_getElem?_getD,List.getD_eq_getElem?_getD,List.getElem?_eq_getElem h1,List.getElem?_eq_getElem h2]at e;rw[List.getElem?_eq_getElem h1,List.getElem?_eq_getElem h2];exact congrArg some e
 ·rw[List.getElem?_eq_none (by rw[yN];omega),List.getElem?_eq_none (by rw[List.length_append,Fd.tV,Fd.tV];omega)]
theorem AZ(h:List (BitVec 64))(s0 s1:BitVec 64)(h0:(h.getD 0 0).toNat<67108864)(h1:(h.getD 1 0).toNat<67108864)(h2:(h.getD 2 0).toNat<67108864)(h3:(h.getD 3 0).toNat<67108864)(h4:(h.getD 4 0).toNat<67108864):
  Sc.num (wt h s0 s1)=(v5 h+(s0.toNat+18446744073709551616*s1.toNat))%340282366920938463463374607431768211456:=by
 have hw:=low_word h h0 h1 h2 h3 h4;have hl:=(vj h).isLt;have hh:=(wP h).isLt;have hs0:=s0.isLt;have hs1:=s1.isLt;unfold wt;rw[tell2_lo,Fd.u6,num_lo,num_lo,Fd.tV];have e1:(sumLow h s0).toNat=((vj h).toNat+s0.toNat)%18446744073709551616:=by
  unfold sumLow;rw[BitVec.toNat_add,BitVec.toNat_add,show (0:BitVec 64).toNat=0 from rfl];omega
 have e2:(over (vj h) s0 0).toNat=((vj h).toNat+s0.toNat)/18446744073709551616:=by
  unfold over;rw[BitVec.toNat_ofNat,show (0:BitVec 64).toNat=0 from rfl];omega
 have e3:(sumHigh h s0 s1).toNat=((wP h).toNat+s1.toNat+((vj h).toNat+s0.toNat)/18446744073709551616)%18446744073709551616:=by
  unfold sumHigh;rw[BitVec.toNat_add,BitVec.toNat_add,e2];omega
 rw[e1,e3,show (256:Nat)^8=18446744073709551616 by decide];generalize (vj h).toNat=L at*;generalize (wP h).toNat=H at*;generalize v5 h=V at*;omega
theorem BG(s:ByteArray)(j i:Nat)(h:16*j+16≤s.size)(hi:i<16):(s.extract (16*j) (16*j+16)).data.toList.getD i 0=s.data.toList.getD (16*j+i) 0:=by
 rw[←bM _ _ (by rw[ByteArray.size_extract];omega),←bM s (16*j+i) (by omega)];simp[ByteArray.getElem_eq_getElem_data]
end Cc
theorem jE(r:List Nat)(rp:List (BitVec 64))(D:Nat→Nat→Nat)(s:ByteArray)(hr:Cc.v5 rp=Po.vl r 17)(hrb: ∀i,r.getD i 0≤1023)(hl:rp.length=5)(hp: ∀i,(rp.getD i 0).toNat<67108864)
  (hD: ∀j i,D j i=byN s (16*j+i)): ∀n,16*n≤s.size→Cc.Nar (Cc.vb rp s n)∧Cc.v5 (Cc.vb rp s n)%Cc.P130=Po.vl (Po.hTo r D n) 17%Cc.P130
 |0,_=>⟨⟨rfl,by show(0:BitVec 64).toNat<_;decide,by show(0:BitVec 64).toNat<_;decide,by show(0:BitVec 64).toNat<_;decide,by show(0:BitVec 64).toNat<_;decide,by show(0:BitVec 64).toNat<_;decide⟩,rfl⟩
 |n+1,h=>by
  obtain⟨h1,h2⟩:=jE r rp D s hr hrb hl hp hD n (by omega);have hlen:(s.extract (16*n) (16*n+16)).data.toList.length=16:=by
   have:(s.extract (16*n) (16*n+16)).size=16:=by rw[ByteArray.size_extract];omega
   rw[Array.length_toList];exact this
  obtain⟨p1,p2⟩:=Cc.piece_val _ hlen;obtain⟨a1,a2,a3⟩:=Cc.plus_val h1 p2;obtain⟨t1,k1,t2⟩:=Cc.times_val a2 a3 hl hp;have hB:Po.Byt (Po.hTo r D n):=Po.zw r D hrb (fun j i=>by rw[hD];exact cr _ _) n;have b1:=Po.AU (D n) (Po.hTo r D n) hB.1;obtain⟨k2,b2⟩:=Po.times_val (Po.wn (D n) (Po.hTo r D n)) r;refine⟨t1,?_⟩;have e1:Cc.v5 (Cc.vb rp s (n+1))%Cc.P130=(Cc.v5 (Cc.plus (Cc.vb rp s n) (Cc.piece (s.extract (16*n) (16*n+16)).data.toList))*Cc.v5 rp)%Cc.P130:=by
   rw[←t2,Nat.add_mul_mod_self_left];rfl
  have e2:Po.vl (Po.hTo r D (n+1)) 17%Cc.P130=(Po.vl (Po.wn (D n) (Po.hTo r D n)) 17*Po.vl r 17)%Cc.P130:=by
   rw[←b2,Nat.add_mul_mod_self_left];rfl
  rw[e1,e2,a1,b1,p1,hr];have e3:Po.sn (fun i=>((s.extract (16*n) (16*n+16)).data.toList.getD i 0).toNat) 16=Po.sn (D n) 16:=Po.sn_congr 16 (fun i hi=>by rw[hD];unfold byN;rw[Cc.BG s n i (by omega) hi]);rw[e3,←Nat.add_assoc];have e4:(Cc.v5 (Cc.vb rp s n)+Po.sn (D n) 16+340282366920938463463374607431768211456)%Cc.P130=(Po.vl (Po.hTo r D n) 17+Po.sn (D n) 16+340282366920938463463374607431768211456)%Cc.P130:=by
   rw[Nat.add_assoc,Nat.add_assoc,Nat.add_mod,h2,←Nat.add_mod]
  rw[Nat.mul_mod,e4,←Nat.mul_mod]
theorem pV:dD:=by
 intro f s h16 hs;obtain⟨r1,r2,r3⟩:=Cc.rOf_val f;have hrb: ∀i,(Po.xm (fun i=>(f i).toNat)).getD i 0≤1023:=fun i=>by
  have:=Po.Aq (Po.rAt (fun i=>(f i).toNat)) 255 (Po.Bi _ (fun i=>by have:=(f i).toNat_lt;omega)) 16 i;show(Po.yZ (Po.rAt (fun i=>(f i).toNat)) 16).getD i 0≤1023
  omega
 obtain⟨m1,m2⟩:=jE _ _ (fun j i=>byN s (16*j+i)) s r1 hrb r2 r3 (fun _ _=>rfl) (s.size/16) (by omega);have hB:Po.Byt (Po.hTo (Po.xm (fun i=>(f i).toNat)) (fun j i=>byN s (16*j+i)) (s.size/16)):=Po.zw _ _ hrb (fun j i=>cr _ _) _;have hL:=Po.least_val _ hB.1 (fun i=>by have:=hB.all i;omega);obtain⟨l1,l2,l3,l4,l5,l6⟩:=Cc.A5 m1;have hE:=Po.eTo_val (Po.wI (Po.hTo (Po.xm (fun i=>(f i).toNat)) (fun j i=>byN s (16*j+i)) (s.size/16))) (fun i=>(f (16+i)).toNat) 16;have hT:=Cc.AZ (Cc.lowest (Cc.vb (Cc.rOf f) s (s.size/16))) (Cc.wdL (fun i=>f (16+i)) 8) (Cc.wdL (fun i=>f (24+i)) 8) l2 l3 l4 l5 l6;refine Sc.wQ ?_ ?_
 ·rw[Cc.yj];exact Po.xY _ _ _
 ·show Sc.num (Po.eTo _ _ 16).1=Sc.num (Cc.wt _ _ _)
  rw[hT,l1,m2,Cc.AE,Cc.AE];have hlt:Sc.num (Po.eTo (Po.wI (Po.hTo (Po.xm (fun i=>(f i).toNat)) (fun j i=>byN s (16*j+i)) (s.size/16))) (fun i=>(f (16+i)).toNat) 16).1<340282366920938463463374607431768211456:=by
   have:=Sc.yJ (Po.eTo (Po.wI (Po.hTo (Po.xm (fun i=>(f i).toNat)) (fun j i=>byN s (16*j+i)) (s.size/16))) (fun i=>(f (16+i)).toNat) 16).1;rw[Po.xY]at this;exact this
  have hs16:Po.sn (fun i=>(f (16+i)).toNat) 16=Cc.n8 (fun i=>f (16+i))+18446744073709551616*Cc.n8 (fun i=>f (24+i)):=by
   rw[Cc.sn_16];rfl
  rw[hL,hs16,show (256:Nat)^16=340282366920938463463374607431768211456 by decide]at hE;generalize Sc.num (Po.eTo (Po.wI (Po.hTo (Po.xm (fun i=>(f i).toNat)) (fun j i=>byN s (16*j+i)) (s.size/16))) (fun i=>(f (16+i)).toNat) 16).1=N at*;generalize Po.vl (Po.hTo (Po.xm (fun i=>(f i).toNat)) (fun j i=>byN s (16*j+i)) (s.size/16)) 17%Cc.P130=V at*;generalize Cc.n8 (fun i=>f (16+i))+18446744073709551616*Cc.n8 (fun i=>f (24+i))=K at*;generalize (Po.eTo (Po.wI (Po.hTo (Po.xm (fun i=>(f i).toNat)) (fun j i=>byN s (16*j+i)) (s.size/16))) (fun i=>(f (16+i)).toNat) 16).2=C at*;omega
end Go.Proofs.YtclpbaokadfhhaaGreatDoor
