import Derived.Test.YtclpbaokadfhhaaGreatDoorZa
import Derived.Deep.RegionHeld3
set_option maxRecDepth 100000
set_option maxHeartbeats 1000000
namespace Go.Proofs.YtclpbaokadfhhaaGreatDoor
open Go.RowKit
def V(x:BitVec 32):Int:=x.toNat
theorem o9(x:BitVec 32):0≤V x:=by unfold V;omega
theorem pa(x:BitVec 32):V x<4294967296:=by unfold V;have:=x.isLt;omega
theorem nN(x:BitVec 32):IntKind.u32.wrap (V x)=V x:=by
 rw[IntKind.wrap_u32];have h1:=o9 x;have h2:=pa x;omega
theorem eO(x y:BitVec 32):IntKind.u32.wrap (V x+V y)=V (x+y):=by
 rw[IntKind.wrap_u32];unfold V;rw[BitVec.toNat_add];simp
theorem fR(x:BitVec 32):BitVec.ofInt 32 (V x)=x:=by
 unfold V;rw[BitVec.ofInt_natCast];simp
theorem iA(x y:BitVec 32):bits .xor .u32 (V x) (V y)=V (x^^^y):=by
 show IntKind.u32.wrap ((BitVec.ofInt 32 (V x)^^^BitVec.ofInt 32 (V y)).toNat:Int)=_
 rw[fR,fR];exact nN _
theorem o8(x y:BitVec 32):bits .or .u32 (V x) (V y)=V (x|||y):=by
 show IntKind.u32.wrap ((BitVec.ofInt 32 (V x)|||BitVec.ofInt 32 (V y)).toNat:Int)=_
 rw[fR,fR];exact nN _
theorem tn(x:BitVec 32)(k:Nat):IntKind.u32.wrap (V x*2^k)=V (x<<<k):=by
 rw[IntKind.wrap_u32];unfold V;rw[BitVec.toNat_shiftLeft,Nat.shiftLeft_eq];simp
theorem mE(x:BitVec 32)(k:Nat):V x/2^k=V (x>>>k):=by
 unfold V;rw[BitVec.toNat_ushiftRight,Nat.shiftRight_eq_div_pow];simp
theorem mF(n:Nat)(h:n<4294967296):(n:Int)=V (BitVec.ofNat 32 n):=by
 unfold V;rw[BitVec.toNat_ofNat,Nat.mod_eq_of_lt (by simpa using h)]
theorem eA(x y:BitVec 32):(V x+V y)%4294967296=V (x+y):=by rw[←eO,IntKind.wrap_u32]
theorem j3(x:BitVec 32)(k:Nat):V x*2^k%4294967296=V (x<<<k):=by rw[←tn,IntKind.wrap_u32]
theorem tp(x:BitVec 32):V x%4294967296=V x:=by have h1:=o9 x;have h2:=pa x;omega
theorem bM(s:ByteArray)(k:Nat)(h:k<s.size):s[k]=s.data.toList.getD k 0:=by
 have h2:k<s.data.toList.length:=by simpa using h
 rw[List.getD_eq_getElem?_getD,List.getElem?_eq_getElem h2];simp[ByteArray.getElem_eq_getElem_data]
def Vs(l:List (BitVec 32)):Array Value:=(l.map fun x=>Value.int .u32 (V x)).toArray
theorem eu(l:List (BitVec 32)):(Vs l).size=l.length:=by simp[Vs]
theorem Vz{l:List (BitVec 32)}{n:Nat}(h:l.length=n):(Vs l).size=n:=by rw[eu,h]
theorem si(l:List (BitVec 32))(i:Nat):(Vs l)[i]? =l[i]?.map fun x=>Value.int .u32 (V x):=by simp[Vs]
theorem cA(l:List (BitVec 32))(i:Nat)(h:i<l.length):(Vs l)[i]? =some (.int .u32 (V (l.getD i 0))):=by
 rw[si,List.getElem?_eq_getElem h];simp[List.getD,List.getElem?_eq_getElem h]
theorem iz(l:List (BitVec 32))(i:Nat)(x:BitVec 32):(Vs l).setIfInBounds i (.int .u32 (V x))=Vs (l.set i x):=by
 simp[Vs,List.map_set]
theorem ct(l:List (BitVec 32)):(Vs l).all (·.oneCell')=true:=by
 rw[Array.all_eq_true_iff_forall_mem];intro v hv;simp only[Vs,List.mem_toArray,List.mem_map]at hv;obtain⟨x,_,rfl⟩:=hv;rfl
theorem kp(l:List UInt8):(Bs l).all (·.oneCell')=true:=by
 rw[Array.all_eq_true_iff_forall_mem];intro v hv;simp only[Bs,List.mem_toArray,List.mem_map]at hv;obtain⟨x,_,rfl⟩:=hv;rfl
namespace Cc
def vK(x:BitVec 32)(n:Nat):BitVec 32:=x<<<n|||x>>>(32 - n)
def wd(f:Nat→UInt8):Nat→BitVec 32
 |0=>0
 |k+1=>wd f k|||BitVec.ofNat 32 (f k).toNat<<<(8*k)
def byteAt(x:BitVec 32)(k:Nat):UInt8:=UInt8.ofNat (x>>>(8*k)).toNat
def put(l:List UInt8)(off:Nat)(x:BitVec 32):Nat→List UInt8
 |0=>l
 |k+1=>(put l off x k).set (off+k) (byteAt x k)
theorem put_length(l:List UInt8)(off:Nat)(x:BitVec 32)(k:Nat):(put l off x k).length=l.length:=by
 induction k with
 |zero=>rfl
 |succ k ih=>simp[put,ih]
theorem byteAt_eq(x:BitVec 32)(k:Nat):V x/2^(8*k)%256=((byteAt x k).toNat:Int):=by
 rw[mE];unfold byteAt V;simp
def mix(l:List (BitVec 32))(g b t n:Nat):List (BitVec 32):=
 (l.set g (l.getD g 0+l.getD b 0)).set t (vK (l.getD t 0^^^(l.getD g 0+l.getD b 0)) n)
theorem mix_length(l:List (BitVec 32))(g b t n:Nat):(mix l g b t n).length=l.length:=by simp[mix]
def tP(l:List (BitVec 32))(a b c d:Nat):List (BitVec 32):=mix (mix (mix (mix l a b d 16) c d b 12) a b d 8) c d b 7
theorem tZ(l:List (BitVec 32))(a b c d:Nat):(tP l a b c d).length=l.length:=by simp[tP,mix_length]
def BE(l:List (BitVec 32)):List (BitVec 32):=
 tP (tP (tP (tP (tP (tP (tP (tP l 0 4 8 12) 1 5 9 13) 2 6 10 14) 3 7 11 15) 0 5 10 15) 1 6 11 12) 2 7 8 13) 3 4 9 14
theorem stir_length(l:List (BitVec 32)):(BE l).length=l.length:=by simp[BE,tZ]
end Cc
theorem cL{α:Type}(l:List α)(i j:Nat)(x d:α)(h:i≠j):(l.set i x).getD j d=l.getD j d:=by
 simp[List.getD,h]
theorem dh{α:Type}(l:List α)(i:Nat)(x d:α)(h:i<l.length):(l.set i x).getD i d=x:=by
 simp[List.getD,h]
theorem eL(x:BitVec 32)(c:UInt8)(k:Nat):bits BinOp.or IntKind.u32 (V x) ((c.toNat:Int)%4294967296*2^(8*k)%4294967296)=V (x|||BitVec.ofNat 32 c.toNat<<<(8*k)):=by
 have h:c.toNat<256:=c.toNat_lt;rw[mF c.toNat (by omega),tp,j3,o8]
theorem nC(s:ByteArray)(f:Nat→UInt8)(w:World)(hs:4≤s.size)(hm:s.size≤9223372036854775807)(hf: ∀i,i<4→s.data.toList.getD i 0=f i):
  Calls Tryz.prog 242 #[.string s] w fun e w'=>e= .returned (.int .u32 (V (Cc.wd f 4)))∧w'=w:=by
 go_enter Tryz.func242,Tryz.ntmps242;go_wp2;go_loop [3,5] (fun x i=> ∃k:Nat,k≤4∧i= .int .i64 k∧x= .int .u32 (V (Cc.wd f k))) (fun _ i=>4 - (intOf i).toNat)
 case atStart=>exact⟨0,Nat.zero_le _,rfl,rfl⟩
 case round=>
  obtain⟨k,hk,rfl,rfl⟩:=hrel;by_cases hlt:k<4
  ·have hc:=hf k hlt;clear hf;have HW:Hid _:=eL (Cc.wd f k) (f k) k;have hkb:k<s.size:=by omega
   rw[←bM s k hkb]at hc;go_wp2;go_round
   case rel=>exact⟨k+1,by omega,by go_num,aP HW.out⟩
   case measure=>simp[intOf];omega
  ·have:k=4:=by omega
   subst this;go_wp2;go_ret;exact⟨rfl,rfl⟩
theorem jS(b off len cap t:Nat)(l:List UInt8)(x:BitVec 32)(w:World)(hl:4≤len)(hm:len≤9223372036854775807)(_hcap:len≤cap)
  (hb:Blk w b (Bs l) t) (hlen:off+4≤l.length):
  Calls Tryz.prog 216 #[.slice (some ⟨b,off,none⟩) len cap,.int .u32 (V x)] w fun e w'=>e= .returned (.tuple #[])∧w'=w.setRow b (Bs (Cc.put l off x 4)):=by
 go_enter Tryz.func216,Tryz.ntmps216;go_wp2;go_loopw [5] (fun i wr=> ∃k:Nat,k≤4∧i= .int .i64 k∧wr=w.setRow b (Bs (Cc.put l off x k))) (fun i _=>4 - (intOf i).toNat)
 case atStart=>exact⟨0,Nat.zero_le _,rfl,(setRow_self w b _ t (0,0) hb).symm⟩
 case round=>
  obtain⟨k,hk,rfl,rfl⟩:=hrel;by_cases hlt:k<4
  ·have h1:=(hb.row (Bs (Cc.put l off x k))).cell (off+k);rw[bU _ _ (by rw[Cc.put_length];omega)]at h1;have h2:=(hb.row (Bs (Cc.put l off x k))).frozen (off+k);go_wp2;go_roundw
   case rel=>exact⟨k+1,by omega,by go_num,by rw[Cc.byteAt_eq,(hb.row _).set,setRow_setRow,cu];rfl⟩
   case measure=>simp[intOf];omega
  ·have:k=4:=by omega
   subst this;go_wp2;go_end0
   exact⟨rfl,rfl⟩
theorem tm(n:Nat)(h:n<32):bits BinOp.and IntKind.u64 (n:Int) 31=n:=by
 rw[show (31:Int)=((31:Nat):Int)from rfl,bits_and_u64_nat _ _ (by omega) (by omega)];have h31:(31:Nat)=2^5 - 1:=rfl;rw[h31,Nat.and_two_pow_sub_one_eq_mod,Nat.mod_eq_of_lt (by omega)]
theorem oD(x:BitVec 32)(m:Int)(w:World)(h0:0<m)(hn:m<32):
  Calls Tryz.prog 273 #[.int .u32 (V x),.int .i64 m] w fun e w'=>e= .returned (.int .u32 (V (Cc.vK x m.toNat)))∧w'=w:=by
 obtain⟨n,rfl⟩:=Int.eq_ofNat_of_zero_le (by omega:0≤m);rw[Int.toNat_natCast];have e1:=tm n (by omega);have HH:Hid (bits BinOp.or IntKind.u32 (V x*2^n%4294967296) (V x/2^(32 - n))=V (Cc.vK x n)):=by
  have:bits BinOp.or IntKind.u32 (V x*2^n%4294967296) (V x/2^(32 - n))=V (Cc.vK x n):=by rw[j3,mE,o8];rfl
  exact this
 go_enter Tryz.func273,Tryz.ntmps273;go_wp2;go_ret;exact⟨bZ HH.out,rfl⟩
theorem qD(l:List (BitVec 32))(g b t n:Nat)(hl:l.length=16)(hg:g<16)(_ht:t<16)(h2:g≠t):
  (l.set g (l.getD g 0+l.getD b 0)).set t (Cc.vK ((l.set g (l.getD g 0+l.getD b 0)).getD t 0^^^(l.set g (l.getD g 0+l.getD b 0)).getD g 0) n)=Cc.mix l g b t n:=by
 rw[cL _ _ _ _ _ h2,dh _ _ _ _ (by omega)];rfl
theorem qE(p g b t:Nat)(n:Int)(l:List (BitVec 32))(w:World)(hb:Blk w p (Vs l) 203)(hl:l.length=16)(hg:g<16)(hbl:b<16)(ht:t<16)(hgt:g≠t)(hn0:0<n)(hn:n<32):
  Calls Tryz.prog 264 #[.pointer (some ⟨p,0,none⟩),.int .i64 g,.int .i64 b,.int .i64 t,.int .i64 n] w fun e w'=>e= .returned (.tuple #[])∧Blk w' p (Vs (Cc.mix l g b t n.toNat)) 203∧Below p w w'∧w'.heap.size=w.heap.size:=by
 have c1:=hb.cell g;rw[cA _ _ (by omega)]at c1;have c2:=hb.cell b;rw[cA _ _ (by omega)]at c2;have f1:=hb.frozen g;have i1:(g:Int)<16:=by omega
 have i2:(b:Int)<16:=by omega
 have i3:(t:Int)<16:=by omega
 have HR:Hid _:=qD l g b t n.toNat hl hg ht hgt;generalize hx:l.getD g 0=x at c1 HR;generalize hy:l.getD b 0=y at c2 HR;have HX:Hid _:=hx;have HY:Hid _:=hy;clear hx hy;go_enter Tryz.func264,Tryz.ntmps264;go_wp2_with fail;go_region
 go_wp2_with fail;rw[eA,hb.set,iz];have hb1:Blk (w.setRow p (Vs (l.set g (x+y)))).drew p (Vs (l.set g (x+y))) 203:=hb.row _;have BR:Below p w (w.setRow p (Vs (l.set g (x+y)))).drew:=(below_setRow bR nR _).drew;have sz1:Hid ((w.setRow p (Vs (l.set g (x+y)))).drew.heap.size=w.heap.size):=by
  have:(w.setRow p (Vs (l.set g (x+y)))).drew.heap.size=w.heap.size:=by simp
  exact this
 generalize (w.setRow p (Vs (l.set g (x+y)))).drew=w1 at hb1 BR sz1⊢;have hl1:(l.set g (x+y)).length=16:=by simp[hl]
 generalize hL:l.set g (x+y)=L at hb1 hl1 HR;clear c1 c2 f1 hb;have d1:=hb1.cell t;rw[cA _ _ (by omega)]at d1;have d2:=hb1.cell g;rw[cA _ _ (by omega)]at d2;have f2:=hb1.frozen t;generalize L.getD t 0=u at d1 HR;generalize L.getD g 0=v at d2 HR;have q2: ∀(wx:World) (vv:Value),(wx.setCell ⟨p,t,none⟩ vv).cell? ⟨p,g,none⟩=wx.cell? ⟨p,g,none⟩:=fun wx vv=>bc _ _ _ _ _ (by omega)
 go_region_with (first|(go_at_call 273;rw[iA];refine(oD _ _ _ hn0 hn).mono ?_;rintro e w' ⟨rfl,rfl⟩))
 all_goals
  go_wp2;go_end0
  refine⟨rfl,?_,?_,?_⟩
  ·rw[hb1.set,iz,show L.set t (Cc.vK (u^^^v) n.toNat)=Cc.mix l g b t n.toNat from HR.out];exact hb1.row _
  ·rw[hb1.set];exact(below_setRow BR nR _).drew
  ·rw[hb1.set,←show w1.heap.size=w.heap.size from sz1.out];simp
def Turns(p:Nat)(l':List (BitVec 32))(w:World)(e:Ending)(w':World):Prop:=
 e= .returned (.tuple #[])∧Blk w' p (Vs l') 203∧Below p w w'∧w'.heap.size=w.heap.size
theorem Turns.trans{p:Nat}{l1 l2:List (BitVec 32)}{w w1 w2:World}{e1 e2:Ending}(h1:Turns p l1 w e1 w1)(h2:Turns p l2 w1 e2 w2):Turns p l2 w e2 w2:=
 ⟨h2.1,h2.2.1,h1.2.2.1.trans h2.2.2.1,h2.2.2.2.trans h1.2.2.2⟩
theorem jn(p g b t:Nat)(n:Int)(l:List (BitVec 32))(w:World)(hb:Blk w p (Vs l) 203)(hl:l.length=16)(hg:g<16)(hbl:b<16)(ht:t<16)(hgt:g≠t)(hn0:0<n)(hn:n<32):
  Calls Tryz.prog 264 #[.pointer (some ⟨p,0,none⟩),.int .i64 g,.int .i64 b,.int .i64 t,.int .i64 n] w (Turns p (Cc.mix l g b t n.toNat) w):=
 qE p g b t n l w hb hl hg hbl ht hgt hn0 hn
theorem no(p a b c d:Nat)(l:List (BitVec 32))(w:World)(hb:Blk w p (Vs l) 203)(hl:l.length=16)(ha:a<16)(hbl:b<16)(hc:c<16)(hd:d<16)(had:a≠d)(hcb:c≠b):
  Calls Tryz.prog 243 #[.pointer (some ⟨p,0,none⟩),.int .i64 a,.int .i64 b,.int .i64 c,.int .i64 d] w (Turns p (Cc.tP l a b c d) w):=by
 have HQ:Hid (Cc.tP l a b c d=Cc.mix (Cc.mix (Cc.mix (Cc.mix l a b d 16) c d b 12) a b d 8) c d b 7):=by
  have:Cc.tP l a b c d=Cc.mix (Cc.mix (Cc.mix (Cc.mix l a b d 16) c d b 12) a b d 8) c d b 7:=rfl;exact this
 generalize Cc.tP l a b c d=L at HQ⊢;go_enter Tryz.func243,Tryz.ntmps243;go_wp2_with fail;refine(jn p a b d 16 l w hb hl ha hbl hd had (by decide) (by decide)).mono ?_;rintro e1 w1 h1;obtain rfl:=h1.1;go_wp2_with fail;refine(jn p c d b 12 _ w1 h1.2.1 (by simp[Cc.mix_length,hl]) hc hd hbl hcb (by decide) (by decide)).mono ?_;rintro e2 w2 h2;have k2:=h1.trans h2;obtain rfl:=h2.1;go_wp2_with fail;refine(jn p a b d 8 _ w2 h2.2.1 (by simp[Cc.mix_length,hl]) ha hbl hd had (by decide) (by decide)).mono ?_;rintro e3 w3 h3;have k3:=k2.trans h3;obtain rfl:=h3.1;go_wp2_with fail;refine(jn p c d b 7 _ w3 h3.2.1 (by simp[Cc.mix_length,hl]) hc hd hbl hcb (by decide) (by decide)).mono ?_;rintro e4 w4 h4;have k4:=k3.trans h4;obtain rfl:=h4.1;go_wp2;go_end0
 rw[show L=_ from HQ.out];exact k4
theorem bO(p:Nat)(a b c d:Int)(l:List (BitVec 32))(w:World)(hb:Blk w p (Vs l) 203)(hl:l.length=16)(ha:0≤a∧a<16)(hbl:0≤b∧b<16)(hc:0≤c∧c<16)(hd:0≤d∧d<16)(had:a≠d)(hcb:c≠b):
  Calls Tryz.prog 243 #[.pointer (some ⟨p,0,none⟩),.int .i64 a,.int .i64 b,.int .i64 c,.int .i64 d] w (Turns p (Cc.tP l a.toNat b.toNat c.toNat d.toNat) w):=by
 have:=no p a.toNat b.toNat c.toNat d.toNat l w hb hl (by omega) (by omega) (by omega) (by omega) (by omega) (by omega);rw[show ((a.toNat:Nat):Int)=a by omega,show ((b.toNat:Nat):Int)=b by omega,show ((c.toNat:Nat):Int)=c by omega,show ((d.toNat:Nat):Int)=d by omega]at this;exact this
theorem rv(p:Nat)(l:List (BitVec 32))(w:World)(hb:Blk w p (Vs l) 203)(hl:l.length=16):
  Calls Tryz.prog 215 #[.pointer (some ⟨p,0,none⟩)] w (Turns p (Cc.BE l) w):=by
 have HQ:Hid (Cc.BE l=Cc.tP (Cc.tP (Cc.tP (Cc.tP (Cc.tP (Cc.tP (Cc.tP (Cc.tP l 0 4 8 12) 1 5 9 13) 2 6 10 14) 3 7 11 15) 0 5 10 15) 1 6 11 12) 2 7 8 13) 3 4 9 14):=by
  have:Cc.BE l=Cc.tP (Cc.tP (Cc.tP (Cc.tP (Cc.tP (Cc.tP (Cc.tP (Cc.tP l 0 4 8 12) 1 5 9 13) 2 6 10 14) 3 7 11 15) 0 5 10 15) 1 6 11 12) 2 7 8 13) 3 4 9 14:=rfl;exact this
 generalize Cc.BE l=L at HQ⊢;go_enter Tryz.func215,Tryz.ntmps215;go_wp2_with fail;refine(bO p 0 4 8 12 l w hb hl (by decide) (by decide) (by decide) (by decide) (by decide) (by decide)).mono ?_;rintro e1 w1 h1;obtain rfl:=h1.1;go_wp2_with fail;refine(bO p 1 5 9 13 _ w1 h1.2.1 (by simp[Cc.tZ,hl]) (by decide) (by decide) (by decide) (by decide) (by decide) (by decide)).mono ?_;rintro e2 w2 h2;have k2:=h1.trans h2;obtain rfl:=h2.1;go_wp2_with fail;refine(bO p 2 6 10 14 _ w2 h2.2.1 (by simp[Cc.tZ,hl]) (by decide) (by decide) (by decide) (by decide) (by decide) (by decide)).mono ?_;rintro e3 w3 h3;have k3:=k2.trans h3;obtain rfl:=h3.1;go_wp2_with fail;refine(bO p 3 7 11 15 _ w3 h3.2.1 (by simp[Cc.tZ,hl]) (by decide) (by decide) (by decide) (by decide) (by decide) (by decide)).mono ?_;rintro e4 w4 h4;have k4:=k3.trans h4;obtain rfl:=h4.1;go_wp2_with fail;refine(bO p 0 5 10 15 _ w4 h4.2.1 (by simp[Cc.tZ,hl]) (by decide) (by decide) (by decide) (by decide) (by decide) (by decide)).mono ?_;rintro e5 w5 h5;have k5:=k4.trans h5;obtain rfl:=h5.1;go_wp2_with fail;refine(bO p 1 6 11 12 _ w5 h5.2.1 (by simp[Cc.tZ,hl]) (by decide) (by decide) (by decide) (by decide) (by decide) (by decide)).mono ?_;rintro e6 w6 h6;have k6:=k5.trans h6;obtain rfl:=h6.1;go_wp2_with fail;refine(bO p 2 7 8 13 _ w6 h6.2.1 (by simp[Cc.tZ,hl]) (by decide) (by decide) (by decide) (by decide) (by decide) (by decide)).mono ?_;rintro e7 w7 h7;have k7:=k6.trans h7;obtain rfl:=h7.1;go_wp2_with fail;refine(bO p 3 4 9 14 _ w7 h7.2.1 (by simp[Cc.tZ,hl]) (by decide) (by decide) (by decide) (by decide) (by decide) (by decide)).mono ?_;rintro e8 w8 h8;have k8:=k7.trans h8;obtain rfl:=h8.1;go_wp2;go_end0
 rw[show L=_ from HQ.out];exact k8
namespace Cc
def rowTo(W:Nat→BitVec 32)(k:Nat):List (BitVec 32):=(List.range 16).map fun i=>if i<k then W i else 0
theorem rowTo_length(W:Nat→BitVec 32)(k:Nat):(rowTo W k).length=16:=by simp[rowTo]
theorem rowTo_set(W:Nat→BitVec 32)(k:Nat)(hk:k<16):(rowTo W k).set k (W k)=rowTo W (k+1):=by
 apply List.ext_getElem?
 intro i;rw[List.getElem?_set];by_cases h:k=i
 ·subst h;simp[rowTo,hk]
 ·rw[if_neg h];by_cases h8:i<16
  ·simp only[rowTo,List.getElem?_map,List.getElem?_range h8,Option.map_some];congr 1
   by_cases h2:i<k
   ·rw[if_pos h2,if_pos (by omega)]
   ·rw[if_neg h2,if_neg (by omega)]
  ·simp[rowTo,h8]
theorem z8(W:Nat→BitVec 32)(i:Nat)(h:i<16):(rowTo W 16).getD i 0=W i:=by simp[rowTo,List.getD,h]
def consts:List (BitVec 32):= [1634760805,857760878,2036477234,1797285236]
def vJ(s:ByteArray)(o:Nat):BitVec 32:=wd (fun i=>s.data.toList.getD (o+i) 0) 4
def first(key:ByteArray)(c:BitVec 32)(BJ:ByteArray)(i:Nat):BitVec 32:=
 if i<4 then consts.getD i 0 else if i<12 then vJ key ((i - 4)*4)else if i=12 then c else vJ BJ ((i - 13)*4)
end Cc
theorem jR(s:ByteArray)(o n:Nat)(w:World)(ho:o+4≤s.size)(hn:n=s.size)(hm:s.size≤9223372036854775807):
  Calls Tryz.prog 242 #[.string (s.extract o n)] w fun e w'=>e= .returned (.int .u32 (V (Cc.vJ s o)))∧w'=w:=by
 subst hn;refine nC _ _ w (by simp;omega) (by simp;omega) ?_;intro i hi;rw[←bM _ _ (by simp;omega),←bM s (o+i) (by omega)];simp[ByteArray.getElem_eq_getElem_data]
def Z16:Array Value:= #[.int .u32 0,.int .u32 0,.int .u32 0,.int .u32 0,.int .u32 0,.int .u32 0,.int .u32 0,.int .u32 0,.int .u32 0,.int .u32 0,.int .u32 0,.int .u32 0,.int .u32 0,.int .u32 0,.int .u32 0,.int .u32 0]
def F16:Array Value:= #[.int .u32 1634760805,.int .u32 857760878,.int .u32 2036477234,.int .u32 1797285236,.int .u32 0,.int .u32 0,.int .u32 0,.int .u32 0,.int .u32 0,.int .u32 0,.int .u32 0,.int .u32 0,.int .u32 0,.int .u32 0,.int .u32 0,.int .u32 0]
def none16:List (BitVec 32):=List.replicate 16 0
theorem sg:Z16=Vs none16:=by kernel_rfl
theorem oc(key BJ:ByteArray)(c:BitVec 32):F16=Vs (Cc.rowTo (Cc.first key c BJ) 4):=by kernel_rfl
theorem Tryz.info16V:(Tryz.prog.info? 203).map (·.size)=some 16:=by kernel_rfl
theorem bK:Ty 203 16:=⟨_,Tryz.underlying203,rfl,Tryz.info16V⟩
theorem bW{w wr:World}{B k t:Nat}{x:BitVec 32}{W:Nat→BitVec 32}(hk:k<16)(hb1:Blk wr B (Vs (Cc.rowTo W k)) t)(hle:w.heap.size≤B)(BI:Below w.heap.size w wr)(hw:x=W k):
  Blk (wr.setCell ⟨B,k,none⟩ (.int .u32 (V x))) B (Vs (Cc.rowTo W (k+1))) t∧(∀b' cs t',b'≠B→Blk wr b' cs t'→Blk (wr.setCell ⟨B,k,none⟩ (.int .u32 (V x))) b' cs t')∧Below w.heap.size w (wr.setCell ⟨B,k,none⟩ (.int .u32 (V x))):=by
 subst hw;refine⟨?_,?_,BI.setCell hle _⟩
 ·rw[hb1.set,iz,Cc.rowTo_set _ _ hk];exact hb1.row _
 ·intro b' cs t' hne hb';rw[hb1.set];exact hb'.other hne _
theorem i8(key BJ:ByteArray)(c:BitVec 32)(k:Nat)(h:k<8):Cc.vJ key (k*4)=Cc.first key c BJ (4+k):=by
 unfold Cc.first;rw[if_neg (by omega),if_pos (by omega)];congr 2;omega
theorem f8(key BJ:ByteArray)(c:BitVec 32)(k:Nat)(h:k<3):Cc.vJ BJ (k*4)=Cc.first key c BJ (13+k):=by
 unfold Cc.first;rw[if_neg (by omega),if_neg (by omega),if_neg (by omega)];congr 2;omega
theorem f9(key BJ:ByteArray)(c:BitVec 32):c=Cc.first key c BJ 12:=by
 unfold Cc.first;rw[if_neg (by omega),if_neg (by omega),if_pos rfl]
theorem iN(key BJ:ByteArray)(c:BitVec 32)(w:World)(hk:key.size=32)(hn:BJ.size=12):
  Rw 214 #[.string key,.int .u32 (V c),.string BJ] w (.agg (Vs (Cc.rowTo (Cc.first key c BJ) 16))):=by
 have HK:Hid (∀k,k<8→Cc.vJ key (k*4)=Cc.first key c BJ (4+k)):=fun k h=>i8 key BJ c k h
 have HN:Hid (∀k,k<3→Cc.vJ BJ (k*4)=Cc.first key c BJ (13+k)):=fun k h=>f8 key BJ c k h
 have HC:Hid (c=Cc.first key c BJ 12):=f9 key BJ c;have HF:Hid (F16=Vs (Cc.rowTo (Cc.first key c BJ) 4)):=oc key BJ c;generalize Cc.first key c BJ=W at HK HN HC HF⊢;go_enter Tryz.func214,Tryz.ntmps214;go_wp2;rw[←show Z16= #[.int .u32 0,.int .u32 0,.int .u32 0,.int .u32 0,.int .u32 0,.int .u32 0,.int .u32 0,.int .u32 0,.int .u32 0,.int .u32 0,.int .u32 0,.int .u32 0,.int .u32 0,.int .u32 0,.int .u32 0,.int .u32 0]from rfl,
  ←show F16= #[.int .u32 1634760805,.int .u32 857760878,.int .u32 2036477234,.int .u32 1797285236,.int .u32 0,.int .u32 0,.int .u32 0,.int .u32 0,.int .u32 0,.int .u32 0,.int .u32 0,.int .u32 0,.int .u32 0,.int .u32 0,.int .u32 0,.int .u32 0]from rfl]
 rw[sg,show F16=_ from HF.out];clear HF;go_loopw [11] (fun i wr=> ∃k:Nat,k≤8∧i= .int .i64 k∧Blk wr (w.heap.size+1) (Vs (Cc.rowTo W (4+k))) 203∧Blk wr w.heap.size (Vs none16) 203∧Below w.heap.size w wr) (fun i _=>8 - (intOf i).toNat)
 case atStart=>
  refine⟨0,Nat.zero_le _,rfl,?_,?_,(bR.alloc nR _).alloc (by simp) _⟩
  ·exact heap_alloc2_new w _ _
  ·exact heap_alloc2_old w _ _
 case round=>
  obtain⟨k,hk8,rfl,hb1,hb0,BI⟩:=hrel;by_cases hlt:k<8
  ·have g1:=hb1.cell (4+k);rw[cA _ _ (by rw[Cc.rowTo_length];omega)]at g1;have g2:=hb1.frozen (4+k);have i0:(k:Int)<8:=by omega
   go_wp2_with (first|(go_at_call 242;go_must (refine(jR key (k*4) _ _ (by omega) (by omega) (by omega)).mono ?_);rintro e w' ⟨rfl,rfl⟩));have R:=bW (B:=w.heap.size+1) (k:=4+k) (x:=Cc.vJ key (k*4)) (by omega) hb1 (by omega) BI (HK.out k hlt);go_roundw
   case rel=>exact⟨k+1,by omega,by go_num,R.1,R.2.1 _ _ _ (by omega) hb0,R.2.2⟩
   case measure=>simp[intOf];omega
  ·have BZ:k=8:=by omega
   subst BZ;rw[show ((8:Nat):Int)=8 from rfl];have g1:=hb1.cell 12;rw[cA _ _ (by rw[Cc.rowTo_length];omega)]at g1;have g2:=hb1.frozen 12;have R:=bW (B:=w.heap.size+1) (k:=12) (x:=c) (W:=W) (by omega) hb1 (by omega) BI HC.out;go_wp2;generalize wr.setCell ⟨w.heap.size+1,12,none⟩ (.int .u32 (V c))=wq at R⊢;obtain⟨R1,R2,R3⟩:=R;have hb0':=R2 _ _ _ (by omega) hb0;clear g1 g2 hb1 hb0 BI R2 wr;go_loopw [25] (fun i wr=> ∃k:Nat,k≤3∧i= .int .i64 k∧Blk wr (w.heap.size+1) (Vs (Cc.rowTo W (13+k))) 203∧Blk wr w.heap.size (Vs none16) 203∧Below w.heap.size w wr) (fun i _=>3 - (intOf i).toNat)
   case atStart=>exact⟨0,by omega,rfl,R1,hb0',R3⟩
   case round=>
    clear R1 hb0' R3;obtain⟨k,hk8,rfl,hb1,hb0,BI⟩:=hrel;by_cases hlt:k<3
    ·have g1:=hb1.cell (13+k);rw[cA _ _ (by rw[Cc.rowTo_length];omega)]at g1;have g2:=hb1.frozen (13+k);have i0:(k:Int)<3:=by omega
     go_wp2_with (first|(go_at_call 242;go_must (refine(jR BJ (k*4) _ _ (by omega) (by omega) (by omega)).mono ?_);rintro e w' ⟨rfl,rfl⟩));have R:=bW (B:=w.heap.size+1) (k:=13+k) (x:=Cc.vJ BJ (k*4)) (by omega) hb1 (by omega) BI (HN.out k hlt);go_roundw
     case rel=>exact⟨k+1,by omega,by go_num,R.1,R.2.1 _ _ _ (by omega) hb0,R.2.2⟩
     case measure=>simp[intOf];omega
    ·have hk3:k=3:=by omega
     subst hk3;rw[show 13+3=16 from rfl]at hb1;have g0:=hb0;have g1:=hb1;unfold Blk at g0 g1;have e16:(Vs (Cc.rowTo W 16)).size=16:=by rw[eu,Cc.rowTo_length]
     have e16':(Vs none16).size=16:=by rw[eu];rfl
     go_wp2_with (first
      |(refine ld bK rfl rfl (w.heap.size+1) rfl g1 e16 ?_)
      |(refine wpList_store_row rfl 203 _ _ rfl w.heap.size _ rfl rfl 203 _ g0 (by rw[e16];exact Tryz.info16V) (by rw[e16,e16']) (ct _) ?_))
     refine bodyPost_ret (v:= .agg (Vs (Cc.rowTo W 16))) ?_ rfl ⟨rfl,below_setRow BI nR _⟩;exact rr bK rfl rfl (hb0.row _) e16
end Go.Proofs.YtclpbaokadfhhaaGreatDoor
