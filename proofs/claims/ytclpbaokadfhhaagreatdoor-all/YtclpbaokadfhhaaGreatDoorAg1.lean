import Derived.Test.YtclpbaokadfhhaaGreatDoorRl1
import Derived.Test.YtclpbaokadfhhaaGreatDoorZk
import Derived.Test.YtclpbaokadfhhaaGreatDoorXh
section
open Nat renaming two_pow_add_eq_or_of_lt->Qa,shiftRight_eq_div_pow->Qc,shiftLeft_eq->Qd,or_comm->Qe,mod_eq_of_lt->Qf
open BitVec renaming toNat_ushiftRight->Qg,toNat_shiftLeft->Qi,toNat_or->Qj
open List renaming getD_cons_zero->Qk,getD_cons_succ->Qm
open UInt8 renaming ofNat->Qn
namespace Go.Proofs.YtclpbaokadfhhaaGreatDoor
def xE(l:Rl_Ld):Wk_St:=⟨aB l.a,aB l.b,aB l.c,aB l.d⟩
theorem aau:aB (iR 56129 1)=ak 121665:=by
 unfold aB;rw[CK,show (56129+65536*1:Int)=((121665:Nat):Int) by decide];exact ro 121665
theorem Du{u:List Int}{l:Rl_Ld}(k:qt l):xE (nM u l)=(xE l).step (aB u):=by
 obtain⟨m,n,lc,ld⟩:=l;obtain⟨a,c,b,d⟩:=k;dsimp only at a c b d;have e:=cD _ _ a c;have f:=bl _ _ a c;have g:=cD _ _ b d;have h:=bl _ _ b d;have j:=aA _ _ h e;have i:=aA _ _ e e;rw[Dv];unfold xE Wk_St.step Cq Cp Co Cn;dsimp only;simp only[eO,mA _ _ a.1,kJ _ _ a.1,mA _ _ b.1,kJ _ _ b.1,mA _ _ j.1,kJ _ _ j.1,mA _ _ i.1,kJ _ _ i.1,aau]
def xX(f:Nat->Bool):Nat->List Bool
 |0=>[]
 |k+1=>xX f k++ [f (255-1-k)]
theorem Ro(u:List Int):xE ⟨am 1,am 0,u,am 1⟩=Cm (aB u):=by
 unfold xE;dsimp only;rw[show aB (am 1)=ak 1 from oE 1,show aB (am 0)=ak 0 from oE 0];rfl
theorem IJ(l:Rl_Ld):xE (BF l)=(xE l).swap true:=rfl
theorem Ua{t:Bool}{u:List Int}{l:Rl_Ld}(a:qt l):xE (wW t u l)=(xE l).by (aB u) t:=by
 unfold wW Wk_St.by
 cases t with
 |true=>
  rw[if_pos rfl,IJ,Du (zw a),IJ]
 |false=>
  rw[if_neg dd,Du a];rfl
theorem Gh(f:Nat->Bool){u:List Int}(a:Fd_Good u):∀k,xE (fq f u k)=xT (aB u) (Cm (aB u)) (xX f k)
 |0=>Ro u
 |k+1=>by
  rw[fq,Ua (un f a k),Gh f a k,xX,yj];rfl
theorem Wh:∀x:UInt8,x-x%8=x&&&248:=by
 have h:∀n:Fin 256,Qn n.val-Qn n.val%8=Qn n.val&&&248:=dk
 intro x;have:=h ⟨x.toNat,x.toNat_lt⟩;simpa using this
theorem T9:∀x:UInt8,x%64+64=(x&&&63)|||64:=by
 have h:∀n:Fin 256,Qn n.val%64+64=(Qn n.val&&&63)|||64:=dk
 intro x;have:=h ⟨x.toNat,x.toNat_lt⟩;simpa using this
theorem zx(l:Qu):oO l=eV l:=by
 unfold oO eV;rw[Wh,T9]
theorem Ub(s:Qb)(i:Nat):fF (mr s) i=D6 (eV s.data.toList) i:=by
 unfold fF D6 byt;rw[show (mr s).data.toList=eV s.data.toList from zx _];generalize ((eV s.data.toList).getD (i/8) 0).toNat=x;generalize i%8=r;have h:(x:Int)/2^r%2=((x/2^r%2:Nat):Int):=ss
 rw[h,Bool.eq_iff_iff,beq_iff_eq,beq_iff_eq];omega
theorem Gi(s:Qb):∀k,xX (fF (mr s)) k=Bh (eV s.data.toList) k
 |0=>rfl
 |k+1=>by rw[xX,Bh,Gi s k,Ub,show 255-1-k=254-k by omega]
theorem qP(a:Qv)(x:UInt8)(k:Nat)(d:k<=56)(c:a.toNat<2^k):(a|||bw x<<<k).toNat=a.toNat+2^k*x.toNat:=by
 have e:=x.toNat_lt;have b:2^k<=2^56:=Nat.pow_le_pow_right oo d;have h2:x.toNat*2^k<2^64:=by
  have:x.toNat*2^k<=255*2^56:=Nat.mul_le_mul oo b;omega
 rw[Qj,Qi];unfold bw;rw[BitVec.toNat_ofNat,Qf (by omega:x.toNat<2^64),Qd,Qf h2,Qe,Nat.mul_comm,<-Qa c,Nat.add_comm]
theorem xH(f:Nat->UInt8)(j:Nat):(dc f j).toNat=(f j).toNat+256*(f (j+1)).toNat+65536*(f (j+2)).toNat+16777216*(f (j+3)).toNat+4294967296*(f (j+4)).toNat+1099511627776*(f (j+5)).toNat+281474976710656*(f (j+6)).toNat+72057594037927936*(f (j+7)).toNat:=by
 have k:=(f j).toNat_lt;have l:=(f (j+1)).toNat_lt;have m:=(f (j+2)).toNat_lt;have n:=(f (j+3)).toNat_lt;have o:=(f (j+4)).toNat_lt;have p:=(f (j+5)).toNat_lt;have q:=(f (j+6)).toNat_lt;have r:=(f (j+7)).toNat_lt;have a:=qP 0 (f j) 0 oo dd;have z:(0:BitVec 64).toNat=0:=rfl;have b:=qP _ (f (j+1)) 8 oo (by rw[a];omega);have c:=qP _ (f (j+2)) 16 oo (by rw[b,a];omega);have d:=qP _ (f (j+3)) 24 oo (by rw[c,b,a];omega);have e:=qP _ (f (j+4)) 32 oo (by rw[d,c,b,a];omega);have g:=qP _ (f (j+5)) 40 oo (by rw[e,d,c,b,a];omega);have h:=qP _ (f (j+6)) 48 oo (by rw[g,e,d,c,b,a];omega);have i:=qP _ (f (j+7)) 56 oo (by rw[h,g,e,d,c,b,a];omega);unfold dc;rw[i,h,g,e,d,c,b,a];omega
def BS(a b c d:Nat):Nat:=a+18446744073709551616*b+340282366920938463463374607431768211456*c+6277101735386680763835789423207666416102355444464034512896*d
theorem C2(l:Qu)(n:Nat)(h:l.length=n+8):∃a b c d e f g i:UInt8,∃r:List UInt8,l=a::b::c::d::e::f::g::i::r/\r.length=n:=by
 match l,h with
 |a::b::c::d::e::f::g::i::r,h=>exact⟨a,b,c,d,e,f,g,i,r,rfl,by simpa using h⟩
theorem O8(l:Qu)(h:l.length=32):∃a b o z C D E F G H c d e f g i j k m n p q r s t u v w x y A B:UInt8,l=[a,b,o,z,C,D,E,F,G,H,c,d,e,f,g,i,j,k,m,n,p,q,r,s,t,u,v,w,x,y,A,B]:=by
 obtain⟨a,b,o,z,C,D,E,F,K,rfl,h0⟩:=C2 l 24 h;obtain⟨G,H,c,d,e,f,g,i,L,rfl,I⟩:=C2 K 16 h0;obtain⟨j,k,m,n,p,q,r,s,M,rfl,h2⟩:=C2 L 8 I;obtain⟨t,u,v,w,x,y,A,B,N,rfl,J⟩:=C2 M 0 h2;obtain rfl:=List.eq_nil_of_length_eq_zero J;exact⟨a,b,o,z,C,D,E,F,G,H,c,d,e,f,g,i,j,k,m,n,p,q,r,s,t,u,v,w,x,y,A,B,rfl⟩
theorem EO(l:Qu)(h:l.length=32):aR l=BS (dc (λi=>l.getD i 0) 0).toNat (dc (λi=>l.getD i 0) 8).toNat (dc (λi=>l.getD i 0) 16).toNat (dc (λi=>l.getD i 0) 24).toNat:=by
 rw[xH,xH,xH,xH];obtain⟨j,k,w,H,K,L,M,N,O,P,m,n,o,p,q,r,s,t,u,v,x,y,z,A,B,C,D,E,F,G,I,J,rfl⟩:=O8 l h;have e: [j,k,w,H,K,L,M,N,O,P,m,n,o,p,q,r,s,t,u,v,x,y,z,A,B,C,D,E,F,G,I,J]=[j,k,w,H,K,L,M,N]++([O,P,m,n,o,p,q,r]++([s,t,u,v,x,y,z,A]++ [B,C,D,E,F,G,I,J])):=rfl;have Q:∀a b c d e f g i:UInt8,aR [a,b,c,d,e,f,g,i]=a.toNat+256*b.toNat+65536*c.toNat+16777216*d.toNat+4294967296*e.toNat+1099511627776*f.toNat+281474976710656*g.toNat+72057594037927936*i.toNat:=λa b c d e f g i=>by
  simp only[aR];omega
 rw[show aR [j,k,w,H,K,L,M,N,O,P,m,n,o,p,q,r,s,t,u,v,x,y,z,A,B,C,D,E,F,G,I,J]=aR ([j,k,w,H,K,L,M,N]++([O,P,m,n,o,p,q,r]++([s,t,u,v,x,y,z,A]++ [B,C,D,E,F,G,I,J])))from congrArg aR e,kN,kN,kN,Q,Q,Q,Q];simp only[Qk,Qm,Nat.reduceAdd,Nat.zero_add,List.length_cons,List.length_nil,Nat.reducePow];unfold BS;omega
theorem zI(x:av):(x&&&Ff_M51).toNat=x.toNat%2251799813685248:=by
 rw[BitVec.toNat_and,show Ff_M51.toNat=2^51-1 from rfl,Nat.and_two_pow_sub_one_eq_mod]
theorem WI(x y:av):((x>>>51|||y<<<13)&&&Ff_M51).toNat=(x.toNat/2251799813685248+8192*y.toNat)%2251799813685248:=by
 have a:=x.isLt;have b:=y.isLt;rw[zI,Qj,Qg,Qi,Qc,Qd];rw[show y.toNat*2^13%2^64=2^13*(y.toNat%2^51) by omega,Qe,<-Qa (i:=13) oo];omega
theorem WG(x y:av):((x>>>38|||y<<<26)&&&Ff_M51).toNat=(x.toNat/274877906944+67108864*y.toNat)%2251799813685248:=by
 have a:=x.isLt;have b:=y.isLt;rw[zI,Qj,Qg,Qi,Qc,Qd];rw[show y.toNat*2^26%2^64=2^26*(y.toNat%2^38) by omega,Qe,<-Qa (i:=26) oo];omega
theorem WF(x y:av):((x>>>25|||y<<<39)&&&Ff_M51).toNat=(x.toNat/33554432+549755813888*y.toNat)%2251799813685248:=by
 have a:=x.isLt;have b:=y.isLt;rw[zI,Qj,Qg,Qi,Qc,Qd];rw[show y.toNat*2^39%2^64=2^39*(y.toNat%2^25) by omega,Qe,<-Qa (i:=39) oo];omega
theorem YN(x:av):((x>>>12)&&&Ff_M51).toNat=x.toNat/4096%2251799813685248:=by
 rw[zI,Qg,Qc]
theorem RQ(a b c d:Nat)(e:a<18446744073709551616)(f:b<18446744073709551616)(g:c<18446744073709551616)(_:d<18446744073709551616):
  a%2251799813685248+2251799813685248*((a/2251799813685248+8192*b)%2251799813685248)+5070602400912917605986812821504*((b/274877906944+67108864*c)%2251799813685248)+11417981541647679048466287755595961091061972992*((c/33554432+549755813888*d)%2251799813685248)+25711008708143844408671393477458601640355247900524685364822016*(d/4096%2251799813685248)
   =BS a b c d%57896044618658097711785492504343953926634992332820282019728792003956564819968:=by
 unfold BS;omega
theorem EN(l:Qu)(h:l.length=32):bo (ej l)=aR l%57896044618658097711785492504343953926634992332820282019728792003956564819968:=by
 rw[EO l h];unfold ej;rw[rJ];generalize dc (λi=>l.getD i 0) 0=a;generalize dc (λi=>l.getD i 0) 8=b;generalize dc (λi=>l.getD i 0) 16=c;generalize dc (λi=>l.getD i 0) 24=d;rw[<-RQ a.toNat b.toNat c.toNat d.toNat a.isLt b.isLt c.isLt d.isLt];unfold bo uG;simp only[Qk,Qm];rw[zI,WI,WG,WF,YN]
theorem EU{a:List av}(n:aD a):aR (fv a)=cI (al a):=by
 have d:=(pi a (n.mono oo)).1;have o:=oW n;have e:=EN (fv a) (jD a);have g:=EO (fv a) (jD a);have h:=rJ (λi=>(fv a).getD i 0);unfold ej at e;unfold fv at e g h|-;generalize aW a=b at d o e g h|-;rw[DE (nW b) rfl]at e h;obtain⟨j,k,m,f,c,rfl⟩:=bH b d.1;have p:=d.2 0 oo;have q:=d.2 1 oo;have r:=d.2 2 oo;have s:=d.2 3 oo;have t:=d.2 4 oo;simp only[Qk,Qm]at p q r s t;rw[EQ p q r s t,o]at e;have u:dc (λi=>(br (nW [j,k,m,f,c]) 32).getD i 0) 24=(f>>>39)|||(c<<<12):=by
  have:=congrArg (λl=>l.getD 3 0) h;exact this.symm
 have v:((f>>>39)|||(c<<<12)).toNat<9223372036854775808:=by
  rw[Qj,Qg,Qi,Qc,Qd,
   show c.toNat*2^12%2^64=2^12*c.toNat by omega,Qe,<-Qa (i:=12) oo]
  omega
 rw[u]at g;rw[e];symm
 apply Qf
 rw[g];unfold BS;have w:=(dc (λi=>(br (nW [j,k,m,f,c]) 32).getD i 0) 0).isLt;have x:=(dc (λi=>(br (nW [j,k,m,f,c]) 32).getD i 0) 8).isLt;have y:=(dc (λi=>(br (nW [j,k,m,f,c]) 32).getD i 0) 16).isLt;omega
theorem zL(s:Qb):∀k i,k<=16->i<k->(jw s k).getD i 0=byt s (2*i)+256*byt s (2*i+1)
 |0,i,_,a=>by omega
 |k+1,i,b,a=>by
  rw[jw];by_cases e:k=i
  .subst e;rw[dF _ _ _ (by rw[ku];omega)]
  .rw[jg _ _ _ _ e,zL s k i (by omega) (by omega)]
theorem WM(s:Qb)(h:s.size=32):ct (aG s)=((aR s.data.toList%57896044618658097711785492504343953926634992332820282019728792003956564819968:Nat):Int):=by
 have O:s.data.toList.length=32:=by simpa using h
 have M:∀i,byt s i=((s.data.toList.getD i 0).toNat:Int):=λ_=>rfl
 have e:ct (aG s)=ch (λi=>if i=15 then(byt s 30+256*byt s 31)%32768 else byt s (2*i)+256*byt s (2*i+1)) 16:=by
  unfold ct;refine rV 16 λj N=>?_
  unfold aG;by_cases e:15=j
  .subst e;rw[dF _ _ _ (by rw[ku];omega),zL s 16 15 oo oo,if_pos rfl]
  .rw[jg _ _ _ _ e,zL s 16 j oo N,if_neg oo]
 rw[e];simp only[ch,M];obtain⟨a,b,q,C,F,G,H,I,J,K,c,d,f,g,k,l,m,n,o,p,r,t,u,v,w,x,y,z,A,B,D,E,L⟩:=O8 _ O;rw[L];have h0:=a.toNat_lt;have P:=b.toNat_lt;have h2:=q.toNat_lt;have h3:=C.toNat_lt;have h4:=F.toNat_lt;have h5:=G.toNat_lt;have h6:=H.toNat_lt;have h7:=I.toNat_lt;have h8:=J.toNat_lt;have h9:=K.toNat_lt;have Q:=c.toNat_lt;have R:=d.toNat_lt;have S:=f.toNat_lt;have T:=g.toNat_lt;have W:=k.toNat_lt;have X:=l.toNat_lt;have Z:=m.toNat_lt;have ab:=n.toNat_lt;have ad:=o.toNat_lt;have ag:=p.toNat_lt;have ah:=r.toNat_lt;have an:=t.toNat_lt;have ao:=u.toNat_lt;have ap:=v.toNat_lt;have ax:=w.toNat_lt;have ay:=x.toNat_lt;have az:=y.toNat_lt;have a0:=z.toNat_lt;have a1:=A.toNat_lt;have a2:=B.toNat_lt;have a3:=D.toNat_lt;have a4:=E.toNat_lt;simp[aR];omega
theorem E8(s:Qb)(h:s.size=32):aB (aG s)=ak (aR s.data.toList%57896044618658097711785492504343953926634992332820282019728792003956564819968):=by
 unfold aB;rw[WM s h,ro]
theorem Df{a:List Int}{b:Ql}(c:Fd_Good a)(d:aD b)(h:aB a=al b):bF a=fv b:=by
 refine pu ?_ ?_
 .rw[jD,iE]
 .rw[nO c.1 c.bd2,EU d,h]
theorem FW(s p:Qb)(V:Ql)(k:aD V)(h:aB (aG p)=al V):bF (sJ s p)=pO s.data.toList V:=by
 unfold pO;have e:=Gg p;have c:=Gh (fF (mr s)) e 255;obtain⟨f,g⟩:=Ze (eV s.data.toList) k 255;rw[Gi,h,<-g]at c;have d:=un (fF (mr s)) e 255;obtain⟨l,m⟩:=us f.2.1;obtain⟨n,o⟩:=bG f.1 l;refine Df (aA _ _ d.1 (j8 _ d.2.1)) n ?_;rw[o,m];unfold sJ KX;rw[eO,uV];have i:aB (fq (fF (mr s)) (aG p) 255).a=al (Lad.to (eV s.data.toList) V 255).a:=congrArg Wk_St.a c;have j:aB (fq (fF (mr s)) (aG p) 255).b=al (Lad.to (eV s.data.toList) V 255).b:=congrArg Wk_St.b c;rw[i,j]
end Go.Proofs.YtclpbaokadfhhaaGreatDoor
end
section
open Go.Value renaming string->Qa
open Go.Proofs.Tryz renaming prog->Qc
open Go renaming World->Qd,Value->Qe,wp_buildSlice->Qf
open Option.some renaming injEq->Qg
namespace Go.Proofs.YtclpbaokadfhhaaGreatDoor
open Go.RowKit
def kk:ByteArray:=⟨#[48,49,50,51,52,53,54,55,56,57,97,98,99,100,101,102,48,49,50,51,52,53,54,55,56,57,97,98,99,100,101,102]⟩
def k12:ByteArray:=⟨#[48,49,50,51,52,53,54,55,56,57,97,98]⟩
def kk2:ByteArray:=⟨#[48,49,50,51,52,53,54,55,56,57,97,98,99,100,101,102,48,49,50,51,52,53,54,55,56,57,97,98,99,100,101,102,48,49,50,51,52,53,54,55,56,57,97,98,99,100,101,102,48,49,50,51,52,53,54,55,56,57,97,98,99,100,101,102]⟩
def tx(l:List UInt8):ByteArray:=⟨l.toArray⟩
def op6(k n:Int)(a b c d:ByteArray):OpV:={k:=k,n:=n,a:=a,b:=b,c:=c,d:=d,p:=none,ln:=0,cp:=0}
def zj(_p a:ByteArray)(b1:Nat):List OpV:=
 [op6 1 0 (tx [97,98,99]) (tx []) (tx []) (tx []),
  op6 2 0 (tx [107]) (tx [100]) (tx []) (tx []),
  op6 3 70 (tx [115]) (tx []) (tx []) (tx []),
  op6 4 0 kk k12 (tx [116]) (tx [100,97,116,97]),
  op6 5 0 kk k12 (tx [116]) (tx []),
  op6 6 0 kk (tx []) (tx []) (tx []),
  op6 7 0 kk kk (tx []) (tx []),
  op6 8 0 kk (tx []) (tx []) (tx []),
  op6 9 0 kk (tx [100,97,116,97]) (tx []) (tx []),
  op6 10 0 a (tx [100,97,116,97]) (tx []) (tx []),
  {k:=11,n:=0,a:=kk,b:=kk2,c:=tx [100,97,116,97],d:=tx [],p:=some ⟨b1,0,none⟩,ln:=1,cp:=1},
  op6 12 0 kk (tx []) (tx []) (tx []),
  op6 13 0 (tx [72,105]) (tx []) (tx []) (tx []),
  op6 14 0 (tx []) (tx []) (tx []) (tx [])]
def nth(p a:ByteArray)(b1 j:Nat):OpV:=(zj p a b1).getD j (op6 0 0 (tx []) (tx []) (tx []) (tx []))
def xQ(p a:ByteArray)(b1:Nat):Array Qe:=((zj p a b1).flatMap OpV.row).toArray
def zeroV:Wv:={c:=tx [],s:=tx [],l:=tx [],t:=tx [],lp:=none,ln:=0,lc:=0,mp:=none,mn:=0,mc:=0}
theorem SC:∀(l:List OpV) (i:Nat) (o:OpV),l[i]? =some o-> ∀(j:Nat) (v:Qe),o.row[j]? =some v->(l.flatMap OpV.row)[7*i+j]? =some v
 | [],i,o,h,_,_,_=>by simp at h
 |x::l,0,o,h,j,v,a=>by
  simp only[List.getElem?_cons_zero,Qg]at h;subst h;rw[List.flatMap_cons,Nat.mul_zero,Nat.zero_add,List.getElem?_append_left (List.getElem?_eq_some_iff.1 a).1];exact a
 |x::l,i+1,o,h,j,v,a=>by
  rw[List.getElem?_cons_succ]at h;have:=SC l i o h j v a;rw[List.flatMap_cons,List.getElem?_append_right (by show 7<=_;omega)];rw[show 7*(i+1)+j-x.row.length=7*i+j from by show 7*(i+1)+j-7=_;omega];exact this
theorem Zz{w:Qd}{b t:Nat}{p a:Qb}{c:Nat}(h:Blk w b (xQ p a c) t)(j:Nat)(d:j<14):w.rangeAt b (j*7) (nth p a c j).row:=by
 intro k v e;rw[h.cell,Nat.mul_comm];unfold xQ;rw[List.getElem?_toArray];refine SC _ j _ ?_ k v e;unfold nth;rw[List.getD_eq_getElem?_getD,List.getElem?_eq_getElem (show j<(zj p a c).length from d)];rfl
theorem But.range{q b off:Nat}{w w':Qd}{a:List Qe}(h:But q w w')(e:w.rangeAt b off a)(c:b<w.heap.size)(d:b≠q):w'.rangeAt b off a:=λk v f=>by
 have:=e k v f;unfold World.cell? at this|-;rw[h.other b c d];exact this
theorem PX{B b off:Nat}{w w':Qd}{a:List Qe}(h:Below B w w')(d:w.rangeAt b off a)(c:b<B):w'.rangeAt b off a:=λk v e=>by
 rw[h.cell (p:=⟨b,off+k,none⟩) c];exact d k v e
theorem OpV.rangeK{w:Qd}{b off:Nat}{o:OpV}(h:w.rangeAt b off o.row):w.cell? ⟨b,off,none⟩=some (.int .i64 o.k):=h 0 _ rfl
theorem OpV.toL(o:OpV):o.cs.toList=o.row:=by unfold OpV.cs;simp
def zeroOp:OpV:=op6 0 0 (tx []) (tx []) (tx []) (tx [])
theorem ZR:∃a,Qc.info? 9=some a/\a.size=1/\a.zero=some (Qa (tx [])):=by
 have h:((Qc.info? 9).map λi=>(i.size,i.zero))=some (1,some (Qa (tx []))):=kr
 cases b:Qc.info? 9 with
 |none=>rw[b]at h;cases h
 |some a=>
  rw[b]at h;simp only[Option.map_some,Qg,Prod.mk.injEq]at h;exact⟨a,rfl,h.1,h.2⟩
theorem ZS:∃a,Qc.info? 45=some a/\a.size=7/\a.zero=some (.agg zeroOp.cs):=by
 have h:((Qc.info? 45).map λi=>(i.size,i.zero))=some (7,some (.agg zeroOp.cs)):=kr
 cases b:Qc.info? 45 with
 |none=>rw[b]at h;cases h
 |some a=>
  rw[b]at h;simp only[Option.map_some,Qg,Prod.mk.injEq]at h;exact⟨a,rfl,h.1,h.2⟩
theorem acr(s:Qb):Instr.fill (λi=>some (i*1,1)) (Array.map (λx=>(Qa (tx [])).cells[x%(Qa (tx [])).cells.size]!) (Array.range (1*1))) [(0,Qa s)]=some #[Qa s]:=kr
theorem abb{o:Oper}{a:Act}{w:Qd}{K:Act->Qd->Prop}{Q:Exit->Act->Qd->Prop}(b:List (Nat×Operand))(f:o.op=.buildSlice 25 1 b.toArray)(s:Qb)
  (e:b.map (λp=>(p.1,a.eval p.2))=[(0,Qa s)])
  (h:K (a.put o.dst (.slice (some ⟨w.heap.size,0,none⟩) 1 1)) (w.alloc (.cells #[Qa s] 9))):o.wp Qc a w K Q:=by
 obtain⟨g,c,h2,d⟩:=ZR;refine Qf 25 9 1 b.toArray f #[Qa s] g _ Tryz.underlying25 c d (by rw[h2];decide) (by rw[h2];decide) ?_ h;rw[h2,show (b.toArray.map λ(i,x)=>(i,a.eval x)).toList=[(0,Qa s)] by rw[<-e];simp];exact acr s
theorem abc{o:Oper}{a:Act}{w:Qd}{K:Act->Qd->Prop}{Q:Exit->Act->Qd->Prop}(b:List (Nat×Operand))(j:o.op=.buildSlice 22 14 b.toArray)(c:Array Qe)(d:List (Nat×Qe))
  (k:b.map (λp=>(p.1,a.eval p.2))=d)
  (g:Instr.fill (λi=>some (i*7,7)) ((Array.range (14*7)).map λi=>zeroOp.cs[i%7]!) d=some c)
  (h:K (a.put o.dst (.slice (some ⟨w.heap.size,0,none⟩) 14 14)) (w.alloc (.cells c 45))):o.wp Qc a w K Q:=by
 obtain⟨l,e,h2,f⟩:=ZS;refine Qf 22 45 14 b.toArray j c l _ Tryz.underlying22 e f (by rw[h2];decide) (by rw[h2];decide) ?_ h;rw[h2,show (b.toArray.map λ(i,x)=>(i,a.eval x)).toList=d by rw[<-k];simp];exact g
theorem abF(p a:Qb)(b:Nat):Instr.fill (λi=>some (i*7,7)) ((Array.range (14*7)).map λi=>zeroOp.cs[i%7]!) ((zj p a b).zipIdx.map λx=>(x.2,.agg x.1.cs))=some (xQ p a b):=kr
end Go.Proofs.YtclpbaokadfhhaaGreatDoor
end
section
set_option maxRecDepth 100000
set_option maxHeartbeats 4000000
open Go.Value renaming string->Qa,tuple->Qc,int->Qd
open Go.Proofs.Tryz renaming ntmps98->Qe,func98->Qf,ntmps43->Qg,ntmps20->Qi,func43->Qj,func20->Qk
namespace Go.Proofs.YtclpbaokadfhhaaGreatDoor
open Go.RowKit
def nineB:ByteArray:=⟨(dj 9 32).toArray⟩
theorem Hy:nineB.size=32:=by
 show(dj 9 32).toArray.size=32
 rw[List.size_toArray,cJ]
theorem Xx:aR nineB.data.toList=9:=dk
theorem ZK:aB (aG nineB)=al nine:=by
 rw[E8 nineB Hy,Xx];rfl
theorem PF(s:Qb):bF (sJ s nineB)=gW s.data.toList:=FW s nineB nine Tj ZK
theorem TF(s p:Qb)(a:p.size=32):bF (sJ s p)=ix s.data.toList p.data.toList:=by
 refine FW s p (ej p.data.toList) (Xv _) ?_;rw[E8 p a];unfold al;rw[EN p.data.toList (by simpa using a)]
def iB(s:ByteArray):ByteArray×Int:=if s.size=32 then(⟨(gW s.data.toList).toArray⟩,0)else (⟨#[]⟩,1)
theorem Zq:dj 0 32=aq 32:=dk
theorem YB(s:Qb)(w:World)(f:s.size<=140737488351232):
  Rw 12 #[Qa s] w (Qc #[Qa (iB s).1,Qd .i64 (iB s).2]):=by
 by_cases h:s.size=32
 .have b:iB s=(⟨(gW s.data.toList).toArray⟩,0):=by unfold iB;rw[if_pos h]
  rw[b];exact Ue s w h
 .have b:iB s=(⟨#[]⟩,1):=by unfold iB;rw[if_neg h]
  rw[b];have d:Below w.heap.size w (w.alloc (.cells (Ss [s]) 9)):=bR.alloc nR _;have a:=nI s w oo;have c:=decide_eq_true h;rw[c]at a;replace a:=Qh a;clear b c h;go_enter Tryz.func12,Tryz.ntmps12;go_wp2_with fail;refine a.out.mono ?_;rintro e w' ⟨rfl,rfl⟩;go_wp2;go_ret2;exact⟨rfl,d⟩
theorem Hg(s:Qb)(w:World)(e:s.size=32):
  Rw 35 #[Qa s] w (Qa ⟨(gW s.data.toList).toArray⟩):=by
 have c:Hid (Rv 75 #[Qd .i64 9,Qd .i64 32] (Qa nineB)):=λb=>mN 9 32 9 32 rfl rfl oo oo b
 have a:=Qr λb=>by
  have:=OG s nineB e Hy b;rw[PF s]at this;exact this
 generalize nineB=g at c a;generalize gW s.data.toList=R at a|-;go_enter Tryz.func35,Tryz.ntmps35;go_wp2_with fail;refine gv c λh d=>?_
 go_wp2_with fail;refine gv a λi f=>?_
 go_wp2;go_ret;exact⟨rfl,d.trans (f.mono d.size)⟩
theorem OI(s:Qb)(w:World):
  Rw 20 #[Qa s] w (Qc #[Qa (iB s).1,Qd .i64 (iB s).2]):=by
 by_cases h:s.size=32
 .have a:iB s=(⟨(gW s.data.toList).toArray⟩,0):=by unfold iB;rw[if_pos h]
  rw[a];have b:=Qr λe=>Hg s e h
  generalize gW s.data.toList=R at b|-;have c:((s.size:Int)==32)=true:=by rw[beq_iff_eq];omega
  clear a;replace h:=Qh h;go_enter Qk,Qi;go_wp2_with fail;refine gv b λf d=>?_
  go_wp2;go_ret2;exact⟨rfl,d⟩
 .have a:iB s=(⟨#[]⟩,1):=by unfold iB;rw[if_neg h]
  rw[a];have c:((s.size:Int)==32)=false:=by rw[beq_eq_false_iff_ne];omega
  clear a;replace h:=Qh h;go_enter Qk,Qi;go_wp2;go_ret2;exact⟨rfl,Below.refl _ _⟩
theorem K6(s p:Qb)(w:World):
  Rw 98 #[Qa s,Qa p] w (Qc #[Qa (cP s p).1,Qd .i64 (cP s p).2]):=by
 by_cases h:s.size=32
 .have k:((s.size:Int) !=32)=false:=by rw[bne_eq_false_iff_eq];omega
  have l:(s.size:Int)=32:=oo
  by_cases h2:p.size=32
  .have m:((p.size:Int) !=32)=false:=by rw[bne_eq_false_iff_eq];omega
   have n:(p.size:Int)=32:=oo
   have a:cP s p=if ix s.data.toList p.data.toList=aq 32 then(⟨#[]⟩,2)else (⟨(ix s.data.toList p.data.toList).toArray⟩,0):=by unfold cP;rw[if_pos ⟨h,h2⟩]
   rw[a];have d:=Qr λi=>by
    have:=OG s p h h2 i;rw[TF s p h2]at this;exact this
   have e:=Qr λi=>by
    have:=mN 0 32 0 32 rfl rfl oo oo i;rw[Zq]at this;exact this
   generalize ix s.data.toList p.data.toList=R at d|-;generalize j:aq 32=Z at e|-;clear j a;replace h:=Qh h;replace h2:=Qh h2;by_cases b:R=Z
   .subst b;rw[if_pos rfl];go_enter Qf,Qe;go_wp2_with fail;refine gv d λo c=>?_
    go_wp2_with fail;refine gv e λq g=>?_
    go_wp2;go_ret2;exact⟨rfl,c.trans (g.mono c.size)⟩
   .rw[if_neg b];have r:((⟨R.toArray⟩:ByteArray).toList==(⟨Z.toArray⟩:ByteArray).toList)=false:=by
     rw[beq_eq_false_iff_ne,ByteArray.toList_eq,ByteArray.toList_eq];simpa using b
    have t:(R==Z)=false:=by rw[beq_eq_false_iff_ne];exact b
    replace b:=Qh b;go_enter Qf,Qe;go_wp2_with fail;refine gv d λo c=>?_
    go_wp2_with fail;refine gv e λq g=>?_
    go_wp2;go_ret2;exact⟨rfl,c.trans (g.mono c.size)⟩
  .have m:((p.size:Int) !=32)=true:=by rw[bne_iff_ne];omega
   have n:¬(p.size:Int)=32:=oo
   have a:cP s p=(⟨#[]⟩,1):=by unfold cP;rw[if_neg (λf=>h2 f.2)]
   rw[a];clear a;replace h:=Qh h;replace h2:=Qh h2;go_enter Qf,Qe;go_wp2;go_ret2;exact⟨rfl,Below.refl _ _⟩
 .have k:((s.size:Int) !=32)=true:=by rw[bne_iff_ne];omega
  have l:¬(s.size:Int)=32:=oo
  have a:cP s p=(⟨#[]⟩,1):=by unfold cP;rw[if_neg (λf=>h f.1)]
  rw[a];clear a;replace h:=Qh h;go_enter Qf,Qe;go_wp2;go_ret2;exact⟨rfl,Below.refl _ _⟩
theorem YM(o:OpV)(w:World)(q:o.Ok):
  Rw 43 #[.agg o.cs] w (.bool true):=by
 have l:=Qr λs=>YB o.a s q.a
 have m:=Qr (OI o.a)
 have n:=Qr λs=>W0 o.a o.b s q.a q.b
 have p:=Qr (K6 o.a o.b)
 generalize (iB o.a).1=A at l m;generalize (iB o.a).2=C at l m;generalize (cP o.a o.b).1=B at n p;generalize (cP o.a o.b).2=D at n p;have b:Blk (w.alloc (.cells o.cs 45)) w.heap.size o.cs 45:=Blk.new _ _ _;have a:Below w.heap.size w (w.alloc (.cells o.cs 45)):=bR.alloc nR _;have v:=o.size;obtain⟨c,d,e,f,g,h⟩:=OpV.at b;generalize k:o.cs=t at b a v c d e f g h|-;replace k:=Qh k;by_cases i:o.k=6
 .have u:(o.k==6)=true:=by rw[beq_iff_eq];exact i
  replace i:=Qh i;go_enter Qj,Qg;go_wp2_with fail;generalize w.alloc (.cells t 45)=x at b a c d e f g h|-;refine gv l λy j=>?_
  clear c d e f g h;replace b:=b.keep j;replace a:=a.trans (j.mono a.size);rw[<-k.out]at b;obtain⟨c,d,e,f,g,h⟩:=OpV.at b;go_wp2_with fail;refine gv m λz r=>?_
  replace a:=a.trans (r.mono a.size);clear c d e f g h;go_wp2;go_ret;exact⟨rfl,a⟩
 .have u:(o.k==6)=false:=by rw[beq_eq_false_iff_ne];exact i
  replace i:=Qh i;go_enter Qj,Qg;go_wp2_with fail;generalize w.alloc (.cells t 45)=x at b a c d e f g h|-;refine gv n λy j=>?_
  clear c d e f g h;replace b:=b.keep j;replace a:=a.trans (j.mono a.size);rw[<-k.out]at b;obtain⟨c,d,e,f,g,h⟩:=OpV.at b;go_wp2_with fail;refine gv p λz r=>?_
  replace a:=a.trans (r.mono a.size);clear c d e f g h;go_wp2;go_ret;exact⟨rfl,a⟩
end Go.Proofs.YtclpbaokadfhhaaGreatDoor
end
