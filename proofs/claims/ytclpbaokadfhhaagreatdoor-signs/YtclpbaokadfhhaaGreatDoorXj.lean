import Derived.Test.YtclpbaokadfhhaaGreatDoorZg
import Init
namespace Go.Proofs.YtclpbaokadfhhaaGreatDoor
namespace Fd
def sm(f:Nat→Int):Nat→Int
 |0=>0
 |k+1=>sm f k+65536^k*f k
def vl(l:List Int):Int:=sm (fun i=>l.getD i 0) 16
def PI:Int:=57896044618658097711785492504343953926634992332820282019728792003956564819949
theorem sm_succ(f:Nat→Int)(k:Nat):sm f (k+1)=sm f k+65536^k*f k:=rfl
theorem sm_congr{f g:Nat→Int}: ∀k,(∀j,j<k→f j=g j)→sm f k=sm g k
 |0,_=>rfl
 |k+1,h=>by rw[sm,sm,sm_congr k (fun j hj=>h j (by omega)),h k (by omega)]
theorem sm_add(f g:Nat→Int): ∀k,sm (fun i=>f i+g i) k=sm f k+sm g k
 |0=>rfl
 |k+1=>by rw[sm,sm,sm,sm_add f g k,Int.mul_add];omega
theorem sm_sub(f g:Nat→Int): ∀k,sm (fun i=>f i - g i) k=sm f k - sm g k
 |0=>rfl
 |k+1=>by rw[sm,sm,sm,sm_sub f g k,Int.mul_sub];omega
theorem sm_mul(c:Int)(f:Nat→Int): ∀k,sm (fun i=>c*f i) k=c*sm f k
 |0=>by simp[sm]
 |k+1=>by
  rw[sm,sm,sm_mul c f k,Int.mul_add];congr 1
  rw[←Int.mul_assoc,Int.mul_comm (65536^k) c,Int.mul_assoc]
theorem sm_split(f:Nat→Int)(m:Nat): ∀k,sm f (m+k)=sm f m+65536^m*sm (fun j=>f (m+j)) k
 |0=>by simp[sm]
 |k+1=>by
  rw[←Nat.add_assoc,sm,sm_split f m k,sm,Int.mul_add,Int.pow_add,Int.mul_assoc];omega
theorem sm_set(l:List Int)(i:Nat)(x:Int)(hi:i<l.length): ∀n,i<n→sm (fun j=>(l.set i x).getD j 0) n=sm (fun j=>l.getD j 0) n+65536^i*(x - l.getD i 0)
 |0,h=>by omega
 |n+1,h=>by
  rw[sm,sm];by_cases e:i=n
  ·subst e;rw[aw _ _ _ hi,sm_congr i (g:=fun j=>l.getD j 0) (fun j hj=>getD_set_ne _ _ _ _ (by omega)),Int.mul_sub];omega
  ·rw[getD_set_ne _ _ _ _ e,sm_set l i x hi n (by omega)];omega
theorem Br{l:List Int}(hl:l.length=16)(i:Nat)(x:Int)(hi:i<16):vl (l.set i x)=vl l+65536^i*(x - l.getD i 0):=sm_set l i x (by omega) 16 hi
theorem step_val(l:List Int)(hl:l.length=16)(i:Nat)(hi:i<16): ∃k,vl (step l i)+PI*k=vl l:=by
 have hp:(put1 l i).length=16:=by rw[put1_length,hl]
 have e1:vl (put1 l i)=vl l+65536^i*(-(l.getD i 0/65536*65536)):=by
  unfold put1;rw[Br hl i _ hi];congr 2;omega
 unfold step;by_cases h15:i<15
 ·rw[if_pos h15,Br hp (i+1) _ (by omega),e1];refine⟨0,?_⟩;rw[show (put1 l i).getD (i+1) 0+l.getD i 0/65536 - (put1 l i).getD (i+1) 0=l.getD i 0/65536 by omega];generalize l.getD i 0/65536=c;rw[Int.pow_succ];generalize (65536:Int)^i=P;rw[Int.mul_assoc P 65536 c,Int.mul_neg,Int.mul_comm c 65536];omega
 ·have e15:i=15:=by omega
  subst e15;rw[if_neg (by omega),Br hp 0 _ (by omega),e1];rw[show (put1 l 15).getD 0 0+38*(l.getD 15 0/65536) - (put1 l 15).getD 0 0=38*(l.getD 15 0/65536) by omega];generalize l.getD 15 0/65536=c;refine⟨2*c,?_⟩;rw[show (65536:Int)^15=1766847064778384329583297500742918515827483896875618958121606201292619776 by decide,show (65536:Int)^0=1 by decide];unfold PI;omega
theorem pass_val(l:List Int)(hl:l.length=16): ∀i,i≤16→ ∃k,vl (zL l i)+PI*k=vl l
 |0,_=>⟨0,by rw[zL];omega⟩
 |i+1,h=>by
  obtain⟨k,hk⟩:=pass_val l hl i (by omega);obtain⟨m,hm⟩:=step_val (zL l i) (by rw[AX,hl]) i (by omega);exact⟨k+m,by rw[zL,Int.mul_add];omega⟩
theorem carry_val(l:List Int)(hl:l.length=16): ∃k,vl (carry l)+PI*k=vl l:=by
 obtain⟨k,hk⟩:=pass_val l hl 16 (by omega);obtain⟨m,hm⟩:=pass_val (zL l 16) (by rw[AX,hl]) 16 (by omega);refine⟨k+m,?_⟩;have e:carry l=zL (zL l 16) 16:=rfl;rw[e,Int.mul_add];omega
theorem plus_val(a b:List Int)(ha:a.length=16): ∃k,vl (plus a b)+PI*k=vl a+vl b:=by
 obtain⟨k,hk⟩:=carry_val (add a b) (by unfold add;rw[wM,ha]);refine⟨k,?_⟩;have e:vl (add a b)=vl a+vl b:=by
  unfold vl;rw[←sm_add];exact sm_congr 16 (fun j hj=>by unfold add;rw[Az _ _ _ _ _ (by omega) (by omega),if_pos hj])
 unfold plus;rw[hk,e]
theorem minus_val(a b:List Int)(ha:a.length=16): ∃k,vl (minus a b)+PI*k=vl a - vl b:=by
 obtain⟨k,hk⟩:=carry_val (sub a b) (by unfold sub;rw[wM,ha]);refine⟨k,?_⟩;have e:vl (sub a b)=vl a - vl b:=by
  unfold vl;rw[←sm_sub];exact sm_congr 16 (fun j hj=>by unfold sub;rw[Az _ _ _ _ _ (by omega) (by omega),if_pos hj])
 unfold minus;rw[hk,e]
def vl31(t:List Int):Int:=sm (fun i=>t.getD i 0) 31
theorem rowTo_val(a b t:List Int)(ht:t.length=31)(i:Nat)(hi:i<16): ∀k,k≤16→vl31 (rowTo a b t i k)=vl31 t+65536^i*(a.getD i 0*sm (fun j=>b.getD j 0) k)
 |0,_=>by simp[rowTo,sm]
 |k+1,hk=>by
  have ih:=rowTo_val a b t ht i hi k (by omega);have hl:=rowTo_length a b t i k;unfold vl31 at ih⊢;rw[rowTo,sm_set _ _ _ (by omega) 31 (by omega),ih,sm_succ (fun j=>b.getD j 0) k];rw[show (rowTo a b t i k).getD (i+k) 0+a.getD i 0*b.getD k 0 - (rowTo a b t i k).getD (i+k) 0=a.getD i 0*b.getD k 0 by omega];rw[Int.mul_add,Int.mul_add,Int.pow_add];generalize (65536:Int)^i=X;generalize (65536:Int)^k=Y;generalize a.getD i 0=u;generalize b.getD k 0=v;generalize sm (fun j=>b.getD j 0) k=s;rw[show X*Y*(u*v)=X*(u*(Y*v)) by rw[Int.mul_assoc,←Int.mul_assoc Y u v,Int.mul_comm Y u,Int.mul_assoc u Y v]];omega
theorem rowsTo_val(a b:List Int): ∀i,i≤16→vl31 (vy a b i)=sm (fun j=>a.getD j 0) i*vl b
 |0,_=>by
  rw[vy,sm,Int.zero_mul];unfold vl31;have: ∀k,sm (fun i=>none31.getD i 0) k=0:=by
   intro k;induction k with
   |zero=>rfl
   |succ k ih=>
    rw[sm,ih];have:none31.getD k 0=0:=AA 31 k;rw[this];simp
  exact this 31
 |i+1,h=>by
  rw[vy,rowTo_val a b _ (yt a b i) i (by omega) 16 (by omega),rowsTo_val a b i (by omega),sm_succ (fun j=>a.getD j 0) i,Int.add_mul];show _+65536^i*(a.getD i 0*vl b)=_+65536^i*a.getD i 0*vl b
  rw[Int.mul_assoc]
theorem foldTo_at(t:List Int): ∀k i,k≤16→i<k→(u7 t k).getD i 0=if i<15 then t.getD i 0+38*t.getD (i+16) 0 else t.getD i 0
 |0,_,_,h=>by omega
 |k+1,i,hk,h=>by
  rw[u7];by_cases e:k=i
  ·subst e;rw[aw _ _ _ (by rw[yv];omega)]
  ·rw[getD_set_ne _ _ _ _ e,foldTo_at t k i (by omega) (by omega)]
theorem fold_val(t:List Int): ∃k,vl (u7 t 16)+PI*k=vl31 t:=by
 have e1:vl (u7 t 16)=sm (fun i=>t.getD i 0) 16+38*sm (fun j=>t.getD (16+j) 0) 15:=by
  unfold vl;rw[sm_succ (fun i=>(u7 t 16).getD i 0) 15,sm_succ (fun i=>t.getD i 0) 15,sm_congr (f:=fun i=>(u7 t 16).getD i 0) 15 (g:=fun i=>t.getD i 0+38*t.getD (16+i) 0) (fun j hj=>by rw[foldTo_at t 16 j (by omega) (by omega),if_pos hj,Nat.add_comm j 16])];rw[sm_add (fun i=>t.getD i 0) (fun i=>38*t.getD (16+i) 0) 15,sm_mul,foldTo_at t 16 15 (by omega) (by omega),if_neg (by omega)];omega
 have e2:vl31 t=sm (fun i=>t.getD i 0) 16+65536^16*sm (fun j=>t.getD (16+j) 0) 15:=sm_split _ 16 15;refine⟨2*sm (fun j=>t.getD (16+j) 0) 15,?_⟩;rw[e1,e2,show (65536:Int)^16=115792089237316195423570985008687907853269984665640564039457584007913129639936 by decide];unfold PI;omega
theorem by_val(a b:List Int): ∃k,vl (by_ a b)+PI*k=vl a*vl b:=by
 obtain⟨k,hk⟩:=carry_val (u7 (vy a b 16) 16) (yv _ _);obtain⟨m,hm⟩:=fold_val (vy a b 16);have e:=rowsTo_val a b 16 (by omega);refine⟨k+m,?_⟩;have e2:sm (fun j=>a.getD j 0) 16=vl a:=rfl;rw[e2]at e;unfold by_;rw[Int.mul_add,←e];omega
theorem lessTo_at(a:List Int): ∀k i,k≤16→i<k→(wN a k).getD i 0=(a.getD i 0 - yf i+bw a i)%65536
 |0,_,_,h=>by omega
 |k+1,i,hk,h=>by
  rw[wN];by_cases e:k=i
  ·subst e;rw[aw _ _ _ (by rw[yu];omega)]
  ·rw[getD_set_ne _ _ _ _ e,lessTo_at a k i (by omega) (by omega)]
theorem lessTo_val(a:List Int): ∀k,k≤16→sm (fun j=>(wN a 16).getD j 0) k+65536^k*bw a k=sm (fun j=>a.getD j 0) k - sm yf k
 |0,_=>by simp[sm,bw]
 |k+1,hk=>by
  have ih:=lessTo_val a k (by omega);rw[sm,sm,sm,lessTo_at a 16 k (by omega) (by omega),bw,Int.pow_succ];have hd:=Int.emod_add_mul_ediv (a.getD k 0 - yf k+bw a k) 65536;generalize (a.getD k 0 - yf k+bw a k)%65536=r at hd⊢;generalize (a.getD k 0 - yf k+bw a k)/65536=c at hd⊢;have:65536^k*r+65536^k*65536*c=65536^k*(a.getD k 0 - yf k+bw a k):=by
   rw[←hd,Int.mul_add,Int.mul_assoc]
  rw[Int.mul_add,Int.mul_sub]at this;omega
theorem p_sum:sm yf 16=PI:=by decide+kernel
theorem sm_bd(f:Nat→Int): ∀k,(∀j,j<k→0≤f j∧f j≤65535)→0≤sm f k∧sm f k<65536^k
 |0,_=>by simp[sm]
 |k+1,h=>by
  obtain⟨h1,h2⟩:=sm_bd f k (fun j hj=>h j (by omega));obtain⟨h3,h4⟩:=h k (by omega);rw[sm,Int.pow_succ];have hp:(0:Int)≤65536^k:=Int.le_of_lt (Int.pow_pos (by decide));have h5:0≤65536^k*f k:=Int.mul_nonneg hp h3;have h6:65536^k*f k≤65536^k*65535:=Int.mul_le_mul_of_nonneg_left h4 hp;omega
theorem norm_bd{a:List Int}(h:Norm a):0≤vl a∧vl a<115792089237316195423570985008687907853269984665640564039457584007913129639936:=by
 have:=sm_bd (fun i=>a.getD i 0) 16 (fun j _=>h.2 j);rw[show (65536:Int)^16=115792089237316195423570985008687907853269984665640564039457584007913129639936 by decide]at this;exact this
theorem less_val{a:List Int}(h:Norm a):vl (less a)=if PI≤vl a then vl a - PI else vl a:=by
 have hv:=lessTo_val a 16 (by omega);rw[p_sum,show (65536:Int)^16=115792089237316195423570985008687907853269984665640564039457584007913129639936 by decide]at hv;have hb:=bw_bd a h 16;have hl:=norm_bd ⟨yu a 16,lessTo_bd a 16⟩;have ha:=norm_bd h;have e1:sm (fun j=>(wN a 16).getD j 0) 16=vl (wN a 16):=rfl;have e2:sm (fun j=>a.getD j 0) 16=vl a:=rfl;rw[e1,e2]at hv;have hP:PI=57896044618658097711785492504343953926634992332820282019728792003956564819949:=rfl;unfold less;have:bw a 16=0∨bw a 16= -1:=by omega
 rcases this with e|e
 ·rw[e]at hv;rw[if_pos e,if_pos (by omega)];omega
 ·rw[e]at hv;rw[if_neg (by omega),if_neg (by omega)]
theorem lowest_val{a:List Int}(h:Norm a):vl (less (less a))=vl a%PI:=by
 have h1:=norm_bd h;have hP:PI=57896044618658097711785492504343953926634992332820282019728792003956564819949:=rfl;rw[less_val (less_norm a h),less_val h];by_cases c1:PI≤vl a
 ·rw[if_pos c1];by_cases c2:PI≤vl a - PI
  ·rw[if_pos c2];have:vl a=(vl a - PI - PI)+PI*2:=by omega
   rw[this,Int.add_mul_emod_self_left,Int.emod_eq_of_lt (by omega) (by omega)];omega
  ·rw[if_neg c2];have:vl a=(vl a - PI)+PI*1:=by omega
   rw[this,Int.add_mul_emod_self_left,Int.emod_eq_of_lt (by omega) (by omega)];omega
 ·rw[if_neg c1,if_neg c1,Int.emod_eq_of_lt (by omega) (by omega)]
end Fd
end Go.Proofs.YtclpbaokadfhhaaGreatDoor
namespace Go.Proofs.YtclpbaokadfhhaaGreatDoor.Sc
abbrev W:=BitVec 64
def Q:Nat:=7237005577332262213973186563042994240857116359379907606001950938285454250989
def md:List W:= [6346243789798364141,1503914060200516822,0,1152921504606846976]
def val(l:List W):Nat:=(l.getD 0 0).toNat+18446744073709551616*(l.getD 1 0).toNat+340282366920938463463374607431768211456*(l.getD 2 0).toNat+6277101735386680763835789423207666416102355444464034512896*(l.getD 3 0).toNat
theorem four(l:List W)(h:l.length=4): ∃x0 x1 x2 x3,l= [x0,x1,x2,x3]:=by
 match l,h with
 | [x0,x1,x2,x3],_=>exact⟨x0,x1,x2,x3,rfl⟩
def uo(a b:List W):Nat→List W×W
 |0=>(a,0)
 |k+1=>((uo a b k).1.set k ((uo a b k).1.getD k 0+b.getD k 0+(uo a b k).2),BitVec.ofNat 64 ((((uo a b k).1.getD k 0).toNat+(b.getD k 0).toNat+(uo a b k).2.toNat)/18446744073709551616))
theorem An(a b:List W)(k:Nat):(uo a b k).1.length=a.length:=by
 induction k with
 |zero=>rfl
 |succ k ih=>simp[uo,ih]
theorem A8(a b:List W)(k:Nat):(uo a b k).2.toNat≤1:=by
 induction k with
 |zero=>simp[uo]
 |succ k ih=>
  rw[uo,BitVec.toNat_ofNat];have:=((uo a b k).1.getD k 0).isLt;have:=(b.getD k 0).isLt;omega
def less(x y b:W):W:=if x.toNat<y.toNat+b.toNat then 1 else 0
def uC(a:List W):Nat→List W×W
 |0=>([0,0,0,0],0)
 |k+1=>((uC a k).1.set k (a.getD k 0 - md.getD k 0 - (uC a k).2),less (a.getD k 0) (md.getD k 0) (uC a k).2)
theorem Ak(a:List W)(k:Nat):(uC a k).1.length=4:=by
 induction k with
 |zero=>rfl
 |succ k ih=>simp[uC,ih]
theorem less_le(x y b:W):(less x y b).toNat≤1:=by unfold less;split<;>decide
theorem A7(a:List W)(k:Nat):(uC a k).2.toNat≤1:=by
 cases k with
 |zero=>simp[uC]
 |succ k=>exact less_le _ _ _
def ve(a l:List W)(m:W):Nat→List W
 |0=>a
 |k+1=>(ve a l m k).set k (((ve a l m k).getD k 0&&&m)|||(l.getD k 0&&& ~~~m))
theorem Ad(a l:List W)(m:W)(k:Nat):(ve a l m k).length=a.length:=by
 induction k with
 |zero=>rfl
 |succ k ih=>simp[ve,ih]
def vO(a:List W):List W:=ve a (uC a 4).1 (-(uC a 4).2) 4
theorem zR(a:List W):(vO a).length=a.length:=Ad _ _ _ _
def plus(a b:List W):List W:=vO (uo a b 4).1
theorem plus_length(a b:List W):(plus a b).length=a.length:=by rw[plus,zR,An]
def vf(a:List W)(m:W):Nat→List W
 |0=>a
 |k+1=>(vf a m k).set k ((vf a m k).getD k 0&&&m)
theorem yo(a:List W)(m:W)(k:Nat):(vf a m k).length=a.length:=by
 induction k with
 |zero=>rfl
 |succ k ih=>simp[vf,ih]
def wE(a:List W)(bit:W):List W:=vf a (-bit) 4
theorem Ae(a:List W)(b:W):(wE a b).length=a.length:=yo _ _ _
def bit(a:List W)(at':Nat):W:=(a.getD (at'/64) 0>>>(at'%64))&&&1
def timesTo(a b:List W):Nat→List W
 |0=> [0,0,0,0]
 |k+1=>plus (plus (timesTo a b k) (timesTo a b k)) (wE a (bit b (252 - k)))
theorem timesTo_length(a b:List W)(k:Nat):(timesTo a b k).length=4:=by
 cases k with
 |zero=>rfl
 |succ k=>rw[timesTo,plus_length,plus_length,timesTo_length a b k]
def times(a b:List W):List W:=timesTo a b 253
theorem times_length(a b:List W):(times a b).length=4:=timesTo_length _ _ _
def zt(s:List UInt8)(k:Nat):W:=BitVec.ofNat 64 ((s.getD (k/8) 0).toNat/2^(k%8)%2)
def xL(s:List UInt8):Nat→List W
 |0=> [0,0,0,0]
 |k+1=>plus (plus (xL s k) (xL s k)) [zt s (8*s.length - 1 - k),0,0,0]
theorem AK(s:List UInt8)(k:Nat):(xL s k).length=4:=by
 cases k with
 |zero=>rfl
 |succ k=>rw[xL,plus_length,plus_length,AK s k]
def of(s:List UInt8):List W:=xL s (8*s.length)
theorem vo(s:List UInt8):(of s).length=4:=AK _ _
def Fine(l:List W):Prop:=l.length=4∧val l<Q
theorem val4(x0 x1 x2 x3:W):val [x0,x1,x2,x3]=x0.toNat+18446744073709551616*x1.toNat+340282366920938463463374607431768211456*x2.toNat+6277101735386680763835789423207666416102355444464034512896*x3.toNat:=rfl
theorem zero_fine:Fine [0,0,0,0]:=⟨rfl,by decide+kernel⟩
theorem zero_val:val [0,0,0,0]=0:=by decide+kernel
theorem add_step(x y c:W)(hc:c.toNat≤1):(x+y+c).toNat+18446744073709551616*(BitVec.ofNat 64 ((x.toNat+y.toNat+c.toNat)/18446744073709551616)).toNat=x.toNat+y.toNat+c.toNat:=by
 rw[BitVec.toNat_add,BitVec.toNat_add,BitVec.toNat_ofNat];have:=x.isLt;have:=y.isLt;omega
theorem over_le(x y c:W)(hc:c.toNat≤1):(BitVec.ofNat 64 ((x.toNat+y.toNat+c.toNat)/18446744073709551616)).toNat≤1:=by
 rw[BitVec.toNat_ofNat];have:=x.isLt;have:=y.isLt;omega
theorem add_val(a b:List W)(ha:a.length=4)(hb:b.length=4)(h:val a+val b<115792089237316195423570985008687907853269984665640564039457584007913129639936):val (uo a b 4).1=val a+val b:=by
 obtain⟨x0,x1,x2,x3,rfl⟩:=four a ha;obtain⟨y0,y1,y2,y3,rfl⟩:=four b hb;have s0:=add_step x0 y0 0 (by decide);have l0:=over_le x0 y0 0 (by decide);simp only[uo,List.set_cons_zero,List.set_cons_succ,List.getD_cons_zero,List.getD_cons_succ];generalize hc1:BitVec.ofNat 64 ((x0.toNat+y0.toNat+(0:W).toNat)/18446744073709551616)=c1 at s0 l0⊢;have s1:=add_step x1 y1 c1 l0;have l1:=over_le x1 y1 c1 l0;generalize hc2:BitVec.ofNat 64 ((x1.toNat+y1.toNat+c1.toNat)/18446744073709551616)=c2 at s1 l1⊢;have s2:=add_step x2 y2 c2 l1;have l2:=over_le x2 y2 c2 l1;generalize hc3:BitVec.ofNat 64 ((x2.toNat+y2.toNat+c2.toNat)/18446744073709551616)=c3 at s2 l2⊢;have s3:=add_step x3 y3 c3 l2;generalize BitVec.ofNat 64 ((x3.toNat+y3.toNat+c3.toNat)/18446744073709551616)=c4 at s3;rw[val4]at h⊢;rw[val4]at h⊢;rw[val4];rw[show (0:W).toNat=0 from rfl]at s0;have:=(x3+y3+c3).isLt;omega
theorem sub_step(x y b:W)(hb:b.toNat≤1):(x - y - b).toNat+y.toNat+b.toNat=x.toNat+18446744073709551616*(less x y b).toNat:=by
 rw[BitVec.toNat_sub,BitVec.toNat_sub];have:=x.isLt;have:=y.isLt;unfold less;split
 ·rw[show (1:W).toNat=1 from rfl];omega
 ·rw[show (0:W).toNat=0 from rfl];omega
theorem sub_val(a:List W)(ha:a.length=4):val (uC a 4).1+Q=val a+115792089237316195423570985008687907853269984665640564039457584007913129639936*(uC a 4).2.toNat:=by
 obtain⟨x0,x1,x2,x3,rfl⟩:=four a ha;have l0:(0:W).toNat≤1:=by decide
 have s0:=sub_step x0 6346243789798364141 0 l0;have m0:=less_le x0 6346243789798364141 0;simp only[uC,md,List.set_cons_zero,List.set_cons_succ,List.getD_cons_zero,List.getD_cons_succ];generalize less x0 6346243789798364141 0=c1 at s0 m0⊢;have s1:=sub_step x1 1503914060200516822 c1 m0;have m1:=less_le x1 1503914060200516822 c1;generalize less x1 1503914060200516822 c1=c2 at s1 m1⊢;have s2:=sub_step x2 0 c2 m1;have m2:=less_le x2 0 c2;generalize less x2 0 c2=c3 at s2 m2⊢;have s3:=sub_step x3 1152921504606846976 c3 m2;generalize less x3 1152921504606846976 c3=c4 at s3⊢;rw[val4,val4];rw[show (0:W).toNat=0 from rfl,show (6346243789798364141:W).toNat=6346243789798364141 from rfl]at s0;rw[show (1503914060200516822:W).toNat=1503914060200516822 from rfl]at s1;rw[show (0:W).toNat=0 from rfl]at s2;rw[show (1152921504606846976:W).toNat=1152921504606846976 from rfl]at s3;unfold Q;omega
theorem pick_zero(a l:List W)(ha:a.length=4)(hl:l.length=4):ve a l (-(0:W)) 4=l:=by
 obtain⟨x0,x1,x2,x3,rfl⟩:=four a ha;obtain⟨y0,y1,y2,y3,rfl⟩:=four l hl;have e: ∀x y:W,(x&&&(-(0:W)))|||(y&&& ~~~(-(0:W)))=y:=fun x y=>by
  rw[show ~~~(-(0:W))=BitVec.allOnes 64 from by decide,show -(0:W)=0 from by decide,BitVec.and_allOnes,show x&&&(0:W)=0 from BitVec.and_zero];exact BitVec.zero_or
 simp only[ve,List.set_cons_zero,List.set_cons_succ,List.getD_cons_zero,List.getD_cons_succ,e]
theorem pick_one(a l:List W)(ha:a.length=4)(hl:l.length=4):ve a l (-(1:W)) 4=a:=by
 obtain⟨x0,x1,x2,x3,rfl⟩:=four a ha;obtain⟨y0,y1,y2,y3,rfl⟩:=four l hl;have e: ∀x y:W,(x&&&(-(1:W)))|||(y&&& ~~~(-(1:W)))=x:=fun x y=>by
  rw[show ~~~(-(1:W))=0 from by decide,show -(1:W)=BitVec.allOnes 64 from by decide,BitVec.and_allOnes,show y&&&(0:W)=0 from BitVec.and_zero];exact BitVec.or_zero
 simp only[ve,List.set_cons_zero,List.set_cons_succ,List.getD_cons_zero,List.getD_cons_succ,e]
theorem bit01(b:W)(h:b.toNat≤1):b=0∨b=1:=by
 have:b.toNat=0∨b.toNat=1:=by omega
 rcases this with h|h
 ·left;exact BitVec.eq_of_toNat_eq h
 ·right;exact BitVec.eq_of_toNat_eq h
theorem val_lt(a:List W):val a<115792089237316195423570985008687907853269984665640564039457584007913129639936:=by
 unfold val;have:=(a.getD 0 0).isLt;have:=(a.getD 1 0).isLt;have:=(a.getD 2 0).isLt;have:=(a.getD 3 0).isLt;omega
theorem lowered_val(a:List W)(ha:a.length=4)(h:val a<Q+Q):Fine (vO a)∧val (vO a)=val a%Q:=by
 have hs:=sub_val a ha;have hv:=val_lt (uC a 4).1;have hva:=val_lt a;have hQ:Q=7237005577332262213973186563042994240857116359379907606001950938285454250989:=rfl;rcases bit01 _ (A7 a 4)with h0|h0
 ·have e:vO a=(uC a 4).1:=by unfold vO;rw[h0];exact pick_zero _ _ ha (Ak _ _)
  rw[h0,show (0:W).toNat=0 from rfl]at hs;have:val (uC a 4).1=val a%Q:=by
   rw[Nat.mod_eq_sub_mod (by omega),Nat.mod_eq_of_lt (by omega)];omega
  rw[e];exact⟨⟨Ak _ _,by omega⟩,this⟩
 ·have e:vO a=a:=by unfold vO;rw[h0];exact pick_one _ _ ha (Ak _ _)
  rw[h0,show (1:W).toNat=1 from rfl]at hs;rw[e];have:val a<Q:=by omega
  exact⟨⟨ha,this⟩,(Nat.mod_eq_of_lt this).symm⟩
theorem plus_val{a b:List W}(ha:Fine a)(hb:Fine b):Fine (plus a b)∧val (plus a b)=(val a+val b)%Q:=by
 have hQ:Q=7237005577332262213973186563042994240857116359379907606001950938285454250989:=rfl;have h1:=ha.2;have h2:=hb.2;have e:=add_val a b ha.1 hb.1 (by omega);have:=lowered_val (uo a b 4).1 (by rw[An,ha.1]) (by rw[e];omega);rw[e]at this;exact this
theorem only_zero(a:List W)(ha:a.length=4):wE a 0= [0,0,0,0]:=by
 obtain⟨x0,x1,x2,x3,rfl⟩:=four a ha;have e: ∀x:W,x&&&(-(0:W))=0:=fun x=>by simp
 simp only[wE,vf,List.set_cons_zero,List.set_cons_succ,List.getD_cons_zero,List.getD_cons_succ,e]
theorem only_one(a:List W)(ha:a.length=4):wE a 1=a:=by
 obtain⟨x0,x1,x2,x3,rfl⟩:=four a ha;have e: ∀x:W,x&&&(-(1:W))=x:=fun x=>by rw[show -(1:W)=BitVec.allOnes 64 from by decide,BitVec.and_allOnes]
 simp only[wE,vf,List.set_cons_zero,List.set_cons_succ,List.getD_cons_zero,List.getD_cons_succ,e]
theorem and_one(x:W):(x&&&1).toNat=x.toNat%2:=by
 rw[BitVec.toNat_and,show (1:W).toNat=1 from rfl,Nat.and_one_is_mod]
theorem bit_le(a:List W)(k:Nat):(bit a k).toNat≤1:=by unfold bit;rw[and_one];omega
theorem bit_val(a:List W)(ha:a.length=4)(k:Nat)(hk:k<256):(bit a k).toNat=val a/2^k%2:=by
 obtain⟨x0,x1,x2,x3,rfl⟩:=four a ha;have h0:=x0.isLt;have h1:=x1.isLt;have h2:=x2.isLt;have h3:=x3.isLt;unfold bit;rw[and_one,BitVec.toNat_ushiftRight,Nat.shiftRight_eq_div_pow,val4];have hq:k/64=0∨k/64=1∨k/64=2∨k/64=3:=by omega
 have hlt:k%64<64:=Nat.mod_lt _ (by decide);have key: ∀(x L H e:Nat),L<2^e→ ∀r,r<64→x<2^64→(L+2^e*(x+2^64*H))/2^(e+r)%2=x/2^r%2:=by
  intro x L H e hL r hr _;rw[Nat.pow_add,←Nat.div_div_eq_div_mul,Nat.add_mul_div_left _ _ (Nat.two_pow_pos e),Nat.div_eq_of_lt hL,Nat.zero_add];have:2^64*H=2^r*(2*(2^(63 - r)*H)):=by
   rw[←Nat.mul_assoc,←Nat.mul_assoc,←Nat.pow_succ,←Nat.pow_add];congr 2;omega
  rw[this,Nat.add_mul_div_left _ _ (Nat.two_pow_pos r),Nat.add_mul_mod_self_left]
 rcases hq with h|h|h|h
 ·rw[h];show x0.toNat/2^(k%64)%2=_
  have hk':k=0+k%64:=by omega
  rw[show x0.toNat+18446744073709551616*x1.toNat+340282366920938463463374607431768211456*x2.toNat+6277101735386680763835789423207666416102355444464034512896*x3.toNat=0+2^0*(x0.toNat+2^64*(x1.toNat+18446744073709551616*x2.toNat+340282366920938463463374607431768211456*x3.toNat)) by omega];conv=>rhs;rw[hk']
  rw[key _ _ _ 0 (by decide) _ hlt (by omega)]
 ·rw[h];show x1.toNat/2^(k%64)%2=_
  have hk':k=64+k%64:=by omega
  rw[show x0.toNat+18446744073709551616*x1.toNat+340282366920938463463374607431768211456*x2.toNat+6277101735386680763835789423207666416102355444464034512896*x3.toNat=x0.toNat+2^64*(x1.toNat+2^64*(x2.toNat+18446744073709551616*x3.toNat)) by omega];conv=>rhs;rw[hk']
  rw[key _ _ _ 64 (by omega) _ hlt (by omega)]
 ·rw[h];show x2.toNat/2^(k%64)%2=_
  have hk':k=128+k%64:=by omega
  rw[show x0.toNat+18446744073709551616*x1.toNat+340282366920938463463374607431768211456*x2.toNat+6277101735386680763835789423207666416102355444464034512896*x3.toNat=(x0.toNat+18446744073709551616*x1.toNat)+2^128*(x2.toNat+2^64*x3.toNat) by omega];conv=>rhs;rw[hk']
  rw[key _ _ _ 128 (by omega) _ hlt (by omega)]
 ·rw[h];show x3.toNat/2^(k%64)%2=_
  have hk':k=192+k%64:=by omega
  rw[show x0.toNat+18446744073709551616*x1.toNat+340282366920938463463374607431768211456*x2.toNat+6277101735386680763835789423207666416102355444464034512896*x3.toNat=(x0.toNat+18446744073709551616*x1.toNat+340282366920938463463374607431768211456*x2.toNat)+2^192*(x3.toNat+2^64*0) by omega];conv=>rhs;rw[hk']
  rw[key _ _ _ 192 (by omega) _ hlt (by omega)]
theorem twice(X Y q:Nat):((X%q+X%q)%q+Y)%q=(X+X+Y)%q:=by simp only[Nat.add_mod,Nat.mod_mod]
theorem upper(n m k:Nat)(hk:k<m):n/2^(m - (k+1))=n/2^(m - k)+n/2^(m - k)+n/2^(m - (k+1))%2:=by
 have:n/2^(m - k)=n/2^(m - (k+1))/2:=by
  rw[Nat.div_div_eq_div_mul,←Nat.pow_succ];congr 2;omega
 rw[this];omega
theorem only_val{a:List W}(ha:Fine a)(b:W)(hb:b.toNat≤1):Fine (wE a b)∧val (wE a b)=val a*b.toNat:=by
 rcases bit01 b hb with rfl|rfl
 ·rw[only_zero a ha.1];exact⟨zero_fine,by rw[zero_val];simp⟩
 ·rw[only_one a ha.1];exact⟨ha,by simp⟩
theorem timesTo_val{a b:List W}(ha:Fine a)(hb:b.length=4)(hb2:val b<2^253): ∀k,k≤253→Fine (timesTo a b k)∧val (timesTo a b k)=val a*(val b/2^(253 - k))%Q
 |0,_=>⟨zero_fine,by show val [0,0,0,0]=_;rw[zero_val,Nat.div_eq_of_lt hb2];simp⟩
 |k+1,hk=>by
  obtain⟨f,v⟩:=timesTo_val ha hb hb2 k (by omega);obtain⟨f2,v2⟩:=plus_val f f;obtain⟨f3,v3⟩:=only_val ha (bit b (252 - k)) (bit_le _ _);obtain⟨f4,v4⟩:=plus_val f2 f3;refine⟨f4,?_⟩;rw[timesTo,v4,v2,v3,v,bit_val b hb _ (by omega),upper (val b) 253 k (by omega),show 253 - (k+1)=252 - k by omega,Nat.mul_add,Nat.mul_add];generalize val a*(val b/2^(253 - k))=X;generalize val a*(val b/2^(252 - k)%2)=Y;exact twice X Y Q
theorem times_val{a b:List W}(ha:Fine a)(hb:Fine b):Fine (times a b)∧val (times a b)=val a*val b%Q:=by
 have h:=hb.2;have hQ:Q=7237005577332262213973186563042994240857116359379907606001950938285454250989:=rfl;have:=timesTo_val ha hb.1 (by omega) 253 (by omega);rw[Nat.sub_self,Nat.pow_zero,Nat.div_one]at this;exact this
def num:List UInt8→Nat
 | []=>0
 |x::l=>x.toNat+256*num l
theorem yJ: ∀s:List UInt8,num s<2^(8*s.length)
 | []=>by simp[num]
 |x::l=>by
  have h:=yJ l;have:=x.toNat_lt;rw[num,List.length_cons,Nat.mul_add,Nat.pow_add,Nat.mul_comm];generalize 2^(8*l.length)=X at*;omega
theorem Am: ∀(s:List UInt8) (k:Nat),k<8*s.length→num s/2^k%2=(s.getD (k/8) 0).toNat/2^(k%8)%2
 | [],k,h=>by simp at h
 |x::l,k,h=>by
  have hx:=x.toNat_lt;rw[num];by_cases hk:k<8
  ·rw[show k/8=0 by omega,show k%8=k by omega];show _=x.toNat/2^k%2
   have:256*num l=2^k*(2*(2^(7 - k)*num l)):=by
    rw[←Nat.mul_assoc,←Nat.mul_assoc,←Nat.pow_succ,←Nat.pow_add,show k.succ+(7 - k)=8 by omega]
   rw[this,Nat.add_mul_div_left _ _ (Nat.two_pow_pos k),Nat.add_mul_mod_self_left]
  ·have h8:k=8+(k - 8):=by omega
   have ih:=Am l (k - 8) (by rw[List.length_cons]at h;omega);rw[show k/8=(k - 8)/8+1 by omega,show k%8=(k - 8)%8 by omega,List.getD_cons_succ,←ih];conv=>lhs;rw[h8]
   rw[Nat.pow_add,←Nat.div_div_eq_div_mul,show (2:Nat)^8=256 from rfl,Nat.add_mul_div_left _ _ (by decide),Nat.div_eq_of_lt hx,Nat.zero_add]
theorem bitOf_fine(s:List UInt8)(k:Nat):Fine [zt s k,0,0,0]∧val [zt s k,0,0,0]=(s.getD (k/8) 0).toNat/2^(k%8)%2:=by
 have:val [zt s k,0,0,0]=(s.getD (k/8) 0).toNat/2^(k%8)%2:=by
  rw[val4];unfold zt;rw[BitVec.toNat_ofNat];simp;omega
 refine⟨⟨rfl,?_⟩,this⟩;rw[this];have hQ:Q=7237005577332262213973186563042994240857116359379907606001950938285454250989:=rfl;omega
theorem ofTo_val(s:List UInt8): ∀k,k≤8*s.length→Fine (xL s k)∧val (xL s k)=num s/2^(8*s.length - k)%Q
 |0,_=>⟨zero_fine,by show val [0,0,0,0]=_;rw[zero_val,Nat.sub_zero,Nat.div_eq_of_lt (yJ s)];simp⟩
 |k+1,hk=>by
  obtain⟨f,v⟩:=ofTo_val s k (by omega);obtain⟨f2,v2⟩:=plus_val f f;obtain⟨f3,v3⟩:=bitOf_fine s (8*s.length - 1 - k);obtain⟨f4,v4⟩:=plus_val f2 f3;refine⟨f4,?_⟩;rw[xL,v4,v2,v3,v,←Am s _ (by omega),upper (num s) (8*s.length) k (by omega),show 8*s.length - 1 - k=8*s.length - (k+1) by omega];generalize num s/2^(8*s.length - k)=X;generalize num s/2^(8*s.length - (k+1))%2=Y;exact twice X Y Q
theorem of_val(s:List UInt8):Fine (of s)∧val (of s)=num s%Q:=by
 have:=ofTo_val s (8*s.length) nR;rw[Nat.sub_self,Nat.pow_zero,Nat.div_one]at this;exact this
theorem wQ: ∀{a b:List UInt8},a.length=b.length→num a=num b→a=b
 | [],[],_,_=>rfl
 |x::l,y::m,hl,h=>by
  rw[num,num]at h;have:=x.toNat_lt;have:=y.toNat_lt;have e:x=y:=UInt8.toNat.inj (by omega);rw[e,wQ (a:=l) (b:=m) (by simpa using hl) (by omega)]
end Go.Proofs.YtclpbaokadfhhaaGreatDoor.Sc
