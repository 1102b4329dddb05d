import Derived.Test.YtclpbaokadfhhaaGreatDoorXj
import Derived.Test.YtclpbaokadfhhaaGreatDoorZc
namespace Go.Proofs.YtclpbaokadfhhaaGreatDoor
namespace Fd
open Gf (Fp ofN)
theorem PI_eq:PI=((Pr.P:Nat):Int):=rfl
theorem PI_pos:0<PI:=by unfold PI;omega
def ofI(z:Int):Fp:=ofN (z%PI).toNat
theorem ofI_same{x y:Int}(h: ∃k,x+PI*k=y):ofI x=ofI y:=by
 obtain⟨k,rfl⟩:=h;unfold ofI;rw[Int.add_mul_emod_self_left]
theorem zA(n:Nat):ofI (n:Int)=ofN n:=by
 unfold ofI;rw[PI_eq,←Int.natCast_emod,Int.toNat_natCast,Gf.ofN_mod]
theorem rep(z:Int): ∃(n:Nat) (k:Int),(n:Int)+PI*k=z∧ofI z=ofN n:=by
 have h0:=Int.emod_nonneg z (Int.ne_of_gt PI_pos);refine⟨(z%PI).toNat,z/PI,?_,rfl⟩;rw[Int.toNat_of_nonneg h0];exact Int.emod_add_mul_ediv z PI
theorem ofI_add(x y:Int):ofI (x+y)=ofI x+ofI y:=by
 obtain⟨n,k,h1,e1⟩:=rep x;obtain⟨m,l,h2,e2⟩:=rep y;rw[e1,e2,←Gf.ofN_add,←zA];exact(ofI_same ⟨k+l,by rw[Int.mul_add];omega⟩).symm
theorem ofI_mul(x y:Int):ofI (x*y)=ofI x*ofI y:=by
 obtain⟨n,k,h1,e1⟩:=rep x;obtain⟨m,l,h2,e2⟩:=rep y;rw[e1,e2,←Gf.ofN_mul,←zA];refine(ofI_same ⟨k*m+n*l+k*(PI*l),?_⟩).symm;rw[←h1,←h2,Int.natCast_mul];generalize (n:Int)=a;generalize (m:Int)=b;generalize PI=p;grind
theorem ofI_sub(x y:Int):ofI (x - y)=ofI x - ofI y:=by
 have h:=ofI_add (x - y) y;rw[Int.sub_add_cancel]at h;rw[h];generalize ofI (x - y)=a;generalize ofI y=b;grind
def fr(l:List Int):Fp:=ofI (vl l)
theorem u9(a b:List Int)(ha:a.length=16):fr (plus a b)=fr a+fr b:=by
 unfold fr;rw[ofI_same (plus_val a b ha),ofI_add]
theorem uJ(a b:List Int)(ha:a.length=16):fr (minus a b)=fr a - fr b:=by
 unfold fr;rw[ofI_same (minus_val a b ha),ofI_sub]
theorem uG(a b:List Int):fr (by_ a b)=fr a*fr b:=by
 unfold fr;rw[ofI_same (by_val a b),ofI_mul]
theorem none_vl:vl zN=0:=by decide+kernel
theorem small_vl(n:Int):vl (small n)=n:=by
 unfold small;rw[Br rfl 0 n (by omega),none_vl,show zN.getD 0 0=0 from rfl];simp
theorem wk(n:Nat):fr (small (n:Int))=ofN n:=by unfold fr;rw[small_vl,zA]
def ev(bits:List Int):Nat→Nat
 |0=>0
 |i+1=>ev bits i+ev bits i+(if bits.getD i 0=1 then 1 else 0)
theorem zZ(a bits:List Int): ∀i,fr (wW a bits i)=Gf.pw (fr a) (ev bits i)
 |0=>by
  show fr (small 1)=1
  have:=wk 1;rw[Gf.ofN_one]at this;exact this
 |i+1=>by
  rw[wW,ev];by_cases h:bits.getD i 0=1
  ·rw[if_pos h,if_pos h,uG,uG,zZ a bits i,←Gf.pw_add];show _=Gf.pw (fr a) (ev bits i+ev bits i)*fr a
   rfl
  ·rw[if_neg h,if_neg h,uG,zZ a bits i,←Gf.pw_add,Nat.add_zero]
theorem inv_ev:ev (ones [0,1,0,1,1] 255) 255=57896044618658097711785492504343953926634992332820282019728792003956564819947:=by decide+kernel
theorem yi(a:List Int):fr (inv a)=Gf.inv (fr a):=by
 have hl:(ones [0,1,0,1,1] 255).length=255:=by unfold ones;rw[List.length_append,List.length_replicate];rfl
 unfold inv pow;rw[hl,zZ,inv_ev];rfl
theorem u6: ∀x y:List UInt8,Sc.num (x++y)=Sc.num x+256^x.length*Sc.num y
 | [],y=>by simp[Sc.num]
 |a::x,y=>by
  rw[List.cons_append,Sc.num,Sc.num,u6 x y,List.length_cons,Nat.pow_succ,Nat.mul_add];rw[Nat.mul_comm (256^x.length) 256,Nat.mul_assoc];omega
theorem num_two(n:Nat)(h:n≤65535):Sc.num (lo n 2)=n:=by
 have e:lo n 2= [UInt8.ofNat (n/256^0%256),UInt8.ofNat (n/256^1%256)]:=rfl;rw[e,Sc.num,Sc.num,Sc.num,UInt8.toNat_ofNat',UInt8.toNat_ofNat'];omega
theorem tell_num{a:List Int}(h:Norm a): ∀k,((Sc.num (yd a k):Nat):Int)=sm (fun i=>a.getD i 0) k
 |0=>rfl
 |k+1=>by
  have h1:=h.2 k;rw[yd,u6,Ah,num_two _ (by omega),sm,←tell_num h k,Int.natCast_add,Int.natCast_mul];have hp:((256^(2*k):Nat):Int)=65536^k:=by rw[Nat.pow_mul,Int.natCast_pow];rfl
  rw[Int.toNat_of_nonneg h1.1,hp]
theorem toN_ofI(z:Int):((Gf.toN (ofI z):Nat):Int)=z%PI:=by
 have h0:=Int.emod_nonneg z (Int.ne_of_gt PI_pos);have h1:=Int.emod_lt_of_pos z PI_pos;unfold ofI;rw[Gf.toN_ofN,Nat.mod_eq_of_lt (by rw[PI_eq]at h0 h1⊢;omega),Int.toNat_of_nonneg h0]
theorem xr{a:List Int}(ha:a.length=16)(hA:Bd 1125899906842624 a):Sc.num (told a)=Gf.toN (fr a):=by
 have hf:=Bu a ha hA;have hn:=Bt _ hf;have e1:=tell_num (less_norm _ (less_norm _ hn)) 16;have e2:=lowest_val hn;obtain⟨k,hk⟩:=carry_val a ha;obtain⟨m,hm⟩:=carry_val (carry a) hf.1;have e3:vl (carry (carry a))%PI=vl a%PI:=by
  rw[←hk,←hm,Int.add_mul_emod_self_left,Int.add_mul_emod_self_left]
 have e4:=toN_ofI (vl a);have e5:((Sc.num (told a):Nat):Int)=((Gf.toN (fr a):Nat):Int):=by
  unfold told;rw[e1];show vl (less (less (carry (carry a))))=_
  rw[e2,e3,←e4];rfl
 omega
theorem told_eq{a b:List Int}(ha:a.length=16)(hA:Bd 1125899906842624 a)(hb:b.length=16)(hB:Bd 1125899906842624 b):told a=told b↔fr a=fr b:=by
 constructor
 ·intro h;exact Gf.toN_inj (by rw[←xr ha hA,←xr hb hB,h])
 ·intro h;exact Sc.wQ (by rw[us,us]) (by rw[xr ha hA,xr hb hB,h])
end Fd
end Go.Proofs.YtclpbaokadfhhaaGreatDoor
namespace Go.Proofs.YtclpbaokadfhhaaGreatDoor
namespace Rp
open Gf (Fp ofN)
open Go.Proofs.YtclpbaokadfhhaaGreatDoor.Fd (fr by_ plus minus small)
structure Pn where
 x:List Int
 y:List Int
 z:List Int
 t:List Int
def row(p:Pn):List Int:=p.x++p.y++p.z++p.t
def Fine(p:Pn):Prop:=Fd.Good p.x∧Fd.Good p.y∧Fd.Good p.z∧Fd.Good p.t
theorem Fine.row{p:Pn}(h:Fine p):(row p).length=64:=by
 unfold Rp.row;rw[List.length_append,List.length_append,List.length_append,h.1.1,h.2.1.1,h.2.2.1.1,h.2.2.2.1]
def sA(p q:Pn):=by_ (minus p.y p.x) (minus q.y q.x)
def sB(p q:Pn):=by_ (plus p.y p.x) (plus q.y q.x)
def sC(p q:Pn)(tw:List Int):=by_ (by_ p.t tw) q.t
def sD(p q:Pn):=plus (by_ p.z q.z) (by_ p.z q.z)
def sE(p q:Pn):=minus (sB p q) (sA p q)
def sF(p q:Pn)(tw:List Int):=minus (sD p q) (sC p q tw)
def sG(p q:Pn)(tw:List Int):=plus (sD p q) (sC p q tw)
def sH(p q:Pn):=plus (sB p q) (sA p q)
def sum(p q:Pn)(tw:List Int):Pn:=⟨by_ (sE p q) (sF p q tw),by_ (sG p q tw) (sH p q),by_ (sF p q tw) (sG p q tw),by_ (sE p q) (sH p q)⟩
theorem sum_x(p q:Pn)(tw:List Int):(sum p q tw).x=by_ (sE p q) (sF p q tw):=by unfold sum;dsimp only
theorem sum_y(p q:Pn)(tw:List Int):(sum p q tw).y=by_ (sG p q tw) (sH p q):=by unfold sum;dsimp only
theorem sum_z(p q:Pn)(tw:List Int):(sum p q tw).z=by_ (sF p q tw) (sG p q tw):=by unfold sum;dsimp only
theorem sum_t(p q:Pn)(tw:List Int):(sum p q tw).t=by_ (sE p q) (sH p q):=by unfold sum;dsimp only
theorem goods{p q:Pn}{tw:List Int}(hp:Fine p)(hq:Fine q)(ht:Fd.Good tw):Fd.Good (sA p q)∧Fd.Good (sB p q)∧Fd.Good (sC p q tw)∧Fd.Good (sD p q)∧Fd.Good (sE p q)∧Fd.Good (sF p q tw)∧Fd.Good (sG p q tw)∧Fd.Good (sH p q):=by
 obtain⟨p1,p2,p3,p4⟩:=hp;obtain⟨q1,q2,q3,q4⟩:=hq;have a:=Fd.tN _ _ (Fd.tO _ _ p2 p1) (Fd.tO _ _ q2 q1);have b:=Fd.tN _ _ (Fd.tS _ _ p2 p1) (Fd.tS _ _ q2 q1);have c:=Fd.tN _ _ (Fd.tN _ _ p4 ht) q4;have d0:=Fd.tN _ _ p3 q3;have d:=Fd.tS _ _ d0 d0;unfold sE sF sG sH sA sB sC sD;exact⟨a,b,c,d,Fd.tO _ _ b a,Fd.tO _ _ d c,Fd.tS _ _ d c,Fd.tS _ _ b a⟩
theorem xU{p q:Pn}{tw:List Int}(hp:Fine p)(hq:Fine q)(ht:Fd.Good tw):Fine (sum p q tw):=by
 obtain⟨_,_,_,_,e,f,g,h⟩:=goods hp hq ht;unfold Fine;rw[sum_x,sum_y,sum_z,sum_t];exact⟨Fd.tN _ _ e f,Fd.tN _ _ g h,Fd.tN _ _ f g,Fd.tN _ _ e h⟩
def Is(a:Pn)(p:Gf.Pt):Prop:=Fine a∧Ed.Rep4 Gf.S (fr a.x) (fr a.y) (fr a.z) (fr a.t) p
theorem Is.sum{a b:Pn}{p q:Gf.Pt}{tw:List Int}(ha:Is a p)(hb:Is b q)(ht:Fd.Good tw)(hw:fr tw=Gf.S.d+Gf.S.d):Is (sum a b tw) (Ed.add Gf.S p q):=by
 refine⟨xU ha.1 hb.1 ht,?_⟩;obtain⟨gA,gB,gC,gD,gE,gF,gG,gH⟩:=goods ha.1 hb.1 ht;have h:=Ed.Rep4.add Gf.S ha.2 hb.2 (fr (sA a b)) (fr (sB a b)) (fr (sC a b tw)) (fr (sD a b)) (fr (sE a b)) (fr (sF a b tw)) (fr (sG a b tw)) (fr (sH a b)) (fr tw) hw
  (by unfold sA;rw[Fd.uG,Fd.uJ _ _ ha.1.2.1.1,Fd.uJ _ _ hb.1.2.1.1]) (by unfold sB;rw[Fd.uG,Fd.u9 _ _ ha.1.2.1.1,Fd.u9 _ _ hb.1.2.1.1]) (by unfold sC;rw[Fd.uG,Fd.uG])
  (by unfold sD;rw[Fd.u9 _ _ (Fd.by_length _ _),Fd.uG]) (by unfold sE;rw[Fd.uJ _ _ gB.1]) (by unfold sF;rw[Fd.uJ _ _ gD.1]) (by unfold sG;rw[Fd.u9 _ _ gD.1]) (by unfold sH;rw[Fd.u9 _ _ gB.1])
 rw[sum_x,sum_y,sum_z,sum_t,Fd.uG,Fd.uG,Fd.uG,Fd.uG];exact h
def start:Pn:=⟨small 0,small 1,small 1,small 0⟩
theorem zero_fr:fr (small 0)=0:=by
 have:=Fd.wk 0;rw[Gf.ofN_zero]at this;exact this
theorem one_fr:fr (small 1)=1:=by
 have:=Fd.wk 1;rw[Gf.ofN_one]at this;exact this
theorem wF:Fd.Good (small 0):=Fd.vu 0 (by omega) (by omega)
theorem zj:Fd.Good (small 1):=Fd.vu 1 (by omega) (by omega)
theorem Is.start:Is start (Ed.zero Gf.S):=by
 refine⟨⟨wF,zj,zj,wF⟩,?_⟩;show Ed.Rep4 Gf.S (fr (small 0)) (fr (small 1)) (fr (small 1)) (fr (small 0)) _
 rw[zero_fr,one_fr];exact Ed.Rep4.zero Gf.S
def wH(f:Nat→Bool)(p:Pn)(tw:List Int)(m:Nat):Nat→Pn
 |0=>start
 |k+1=>if f (m - 1 - k)then sum (sum (wH f p tw m k) (wH f p tw m k) tw) p tw else sum (wH f p tw m k) (wH f p tw m k) tw
theorem mulTo_is{f:Nat→Bool}{p:Pn}{P:Gf.Pt}{tw:List Int}(hp:Is p P)(ht:Fd.Good tw)(hw:fr tw=Gf.S.d+Gf.S.d)(n m:Nat)(hn:n<2^m)(hf: ∀i,i<m→f i=(n/2^i%2==1)):
  ∀k,k≤m→Is (wH f p tw m k) (Ed.mul Gf.S (n/2^(m - k)) P)
 |0,_=>by rw[Nat.sub_zero,Nat.div_eq_of_lt hn];exact Is.start
 |k+1,hk=>by
  have ih:=mulTo_is hp ht hw n m hn hf k (by omega);have h2:=Is.sum ih ih ht hw;rw[Ed.mul_twice]at h2;have h3:=Is.sum h2 hp ht hw;rw[Ed.mul_succ]at h3;have hu:=Sc.upper n m k (by omega);have hb:=hf (m - 1 - k) (by omega);rw[show m - 1 - k=m - (k+1) by omega]at hb;rw[wH,show m - 1 - k=m - (k+1) by omega,hb];by_cases e:n/2^(m - (k+1))%2=1
  ·rw[if_pos (by simp[e]),hu,e,show∀x:Nat,x+x+1=2*x+1 by omega];exact h3
  ·have e0:n/2^(m - (k+1))%2=0:=by omega
   rw[if_neg (by simp[e0]),hu,e0,show∀x:Nat,x+x+0=2*x by omega];exact h2
def xM(a b:Int):List Int:=(Fd.zN.set 0 a).set 1 b
def factor:List Int:=by_ (minus (small 0) (xM 56129 1)) (Fd.inv (xM 56130 1))
theorem yC(a b:Int)(h1:0≤a∧a≤65535)(h2:0≤b∧b≤65535):Fd.Good (xM a b):=⟨rfl,fun i=>by
 unfold xM;by_cases e1:1=i
 ·subst e1;rw[aw _ _ _ (by rw[List.length_set];decide)];omega
 ·rw[getD_set_ne _ _ _ _ e1];by_cases e0:0=i
  ·subst e0;rw[aw _ _ _ (by decide)];omega
  ·rw[getD_set_ne _ _ _ _ e0];have:=Fd.AA 16 i;unfold Fd.zN;rw[this];omega⟩
theorem num2_vl(a b:Int):Fd.vl (xM a b)=a+65536*b:=by
 unfold xM;rw[Fd.Br (by rfl) 1 _ (by omega),Fd.Br rfl 0 _ (by omega),Fd.none_vl,getD_set_ne _ _ _ _ (by omega),show Fd.zN.getD 0 0=0 from rfl,show Fd.zN.getD 1 0=0 from rfl];omega
theorem ur:Fd.Good factor:=Fd.tN _ _ (Fd.tO _ _ wF (yC _ _ (by omega) (by omega))) (Fd.uv _ (yC _ _ (by omega) (by omega)))
theorem factor_fr:fr factor=Gf.S.d:=by
 have e1:fr (xM 56129 1)=ofN 121665:=by
  unfold fr;rw[num2_vl];exact Fd.zA 121665
 have e2:fr (xM 56130 1)=ofN 121666:=by
  unfold fr;rw[num2_vl];exact Fd.zA 121666
 unfold factor;rw[Fd.uG,Fd.uJ _ _ rfl,Fd.yi,zero_fr,e1,e2];have h0:ofN 121666≠0:=fun e=>by
  have:ofN 121666=ofN 0:=e;rw[Gf.ofN_eq]at this;exact absurd this (by decide+kernel)
 have hi:=Gf.mul_inv _ h0;have hd:ofN Gf.D*ofN 121666+ofN 121665=0:=by
  rw[←Gf.ofN_mul,←Gf.ofN_add,←Gf.ofN_zero,Gf.ofN_eq];decide+kernel
 show(0 - ofN 121665)*Gf.inv (ofN 121666)=ofN Gf.D
 generalize ofN 121666=x at hi hd⊢;generalize Gf.inv x=y at hi⊢;generalize ofN 121665=u at hd⊢;generalize ofN Gf.D=d at hd⊢;grind
def uP:List Int:=plus factor factor
theorem wm:Fd.Good uP:=Fd.tS _ _ ur ur
theorem twice_fr:fr uP=Gf.S.d+Gf.S.d:=by unfold uP;rw[Fd.u9 _ _ ur.1,factor_fr]
end Rp
end Go.Proofs.YtclpbaokadfhhaaGreatDoor
