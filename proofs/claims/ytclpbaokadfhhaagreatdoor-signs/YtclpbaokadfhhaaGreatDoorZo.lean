import Derived.Test.YtclpbaokadfhhaaGreatDoorZn
import Derived.BigQuiet
set_option maxRecDepth 100000
set_option maxHeartbeats 2000000
namespace Go.Proofs.YtclpbaokadfhhaaGreatDoor
open Go.RowKit
namespace Cc
def wdL(f:Nat→UInt8):Nat→BitVec 64
 |0=>0
 |k+1=>wdL f k|||BitVec.ofNat 64 (f k).toNat<<<(8*k)
def half(f:Nat→UInt8)(k:Nat):List (BitVec 64):= [wdL f (min k 8),wdL (fun i=>f (8+i)) (k - 8)]
theorem half_set(f:Nat→UInt8)(k:Nat)(hk:k<16):(half f k).set (k/8) ((half f k).getD (k/8) 0|||BitVec.ofNat 64 (f k).toNat<<<(k%8*8))=half f (k+1):=by
 by_cases h:k<8
 ·have e1:k/8=0:=by omega
  have e2:k%8=k:=by omega
  have e3:min k 8=k:=by omega
  have e4:min (k+1) 8=k+1:=by omega
  have e5:k - 8=0:=by omega
  have e6:k+1 - 8=0:=by omega
  rw[e1,e2];unfold half;rw[e3,e4,e5,e6,Nat.mul_comm k 8];rfl
 ·have e1:k/8=1:=by omega
  have e2:k%8=k - 8:=by omega
  have e3:min k 8=8:=by omega
  have e4:min (k+1) 8=8:=by omega
  have e6:k+1 - 8=(k - 8)+1:=by omega
  have e7:f k=f (8+(k - 8)):=by congr 1;omega
  rw[e1,e2];unfold half;rw[e3,e4,e6,Nat.mul_comm (k - 8) 8,e7];rfl
def yM(f:Nat→UInt8):List (BitVec 64):= [wdL f 8,wdL (fun i=>f (8+i)) 8]
def Aa(lo hi:BitVec 64):List (BitVec 64):= [lo&&&1152921487695413247,hi&&&1152921487695413244]
def ym(lo hi above:BitVec 64):List (BitVec 64):=
 [lo&&&67108863,lo>>>26&&&67108863,(lo>>>52|||hi<<<12)&&&67108863,hi>>>14&&&67108863,hi>>>40|||above<<<24]
end Cc
theorem qq(x:BitVec 64)(c:UInt8)(n:Nat):bits BinOp.or IntKind.u64 (U x) (IntKind.u64.wrap (IntKind.u64.wrap (c.toNat:Int)*2^n))=U (x|||BitVec.ofNat 64 c.toNat<<<n):=by
 have h:c.toNat<256:=c.toNat_lt;rw[dz c.toNat (by omega),j5,dV,bB]
theorem Tryz.info2:(Tryz.prog.info? 210).map (·.size)=some 2:=by kernel_rfl
theorem ox:Ty 210 2:=⟨_,Tryz.underlying210,rfl,Tryz.info2⟩
theorem eI(b off len cap:Nat)(f:Nat→UInt8)(w:World)(hl:16≤len)(hm:len≤9223372036854775807)
  (hc: ∀i,i<16→w.cell? ⟨b,off+i,none⟩=some (.int .u8 (f i).toNat)):
  Rw 219 #[.slice (some ⟨b,off,none⟩) len cap] w (.agg (Ws (Cc.yM f))):=by
 have hblt:b<w.heap.size:=block_lt_of_cell (hc 0 (by omega));have HC:Hid (∀i,i<16→w.cell? ⟨b,off+i,none⟩=some (.int .u8 (f i).toNat)):=hc;clear hc;go_enter Tryz.func219,Tryz.ntmps219;go_wp2;rw[show (#[Value.int IntKind.u64 0,Value.int IntKind.u64 0]:Array Value)=Ws [0,0]from rfl];go_loopw [5] (fun i wr=> ∃k:Nat,k≤16∧i= .int .i64 k∧Blk wr (w.heap.size+1) (Ws (Cc.half f k)) 210∧Blk wr w.heap.size (Ws [0,0]) 210∧Below w.heap.size w wr) (fun i _=>16 - (intOf i).toNat)
 case atStart=>exact⟨0,Nat.zero_le _,rfl,heap_alloc2_new w _ _,heap_alloc2_old w _ _,(bR.alloc nR _).alloc (by simp) _⟩
 case round=>
  obtain⟨k,hk,rfl,hb1,hb0,BI⟩:=hrel;by_cases hlt:k<16
  ·have h1:=HC.out k hlt;rw[←BI.cell (p:=⟨b,off+k,none⟩) hblt]at h1;have h2:=hb1.cell (k/8);rw[au _ _ (by show k/8<2;omega)]at h2;have h3:=hb1.frozen (k/8);have HS:Hid _:=Cc.half_set f k hlt;generalize (Cc.half f k).getD (k/8) 0=x at h2 HS;have i1:(k:Int)<16:=by omega
   have i2:(k:Int)/8<2:=by omega
   have i3:(0:Int)≤(k:Int)/8:=by omega
   have i4:((k:Int)/8).toNat=k/8:=by omega
   have i5:(k:Int)<len:=by omega
   go_wp2_with fail;go_region
   go_wp2;go_roundw
   case rel=>
    rw[qq,hb1.set,aC,show _=_ from HS.out];exact⟨k+1,by omega,by go_num,hb1.row _,hb0.other (by omega) _,(below_setRow BI (by omega) _).drew⟩
   case measure=>simp[intOf];omega
  ·have hk8:k=16:=by omega
   subst hk8;have g0:=hb0;have g1:=hb1;unfold Blk at g0 g1;rw[show Cc.half f 16=Cc.yM f from rfl]at g1;have e1:(Ws (Cc.yM f)).size=2:=by rw[av];rfl
   have e0:(Ws [0,0]).size=2:=by rw[av];rfl
   go_wp2_with (first
    |(refine ld ox rfl rfl (w.heap.size+1) rfl g1 e1 ?_)
    |(refine st ox rfl rfl w.heap.size rfl rfl g0 e1 e0 (ar _) ?_))
   refine bodyPost_ret (v:= .agg (Ws (Cc.yM f))) ?_ rfl ⟨rfl,below_setRow BI nR _⟩;exact rr ox rfl rfl (hb0.row _) e1
theorem jL(lo hi:BitVec 64)(w:World):
  Rw 218 #[.agg (Ws [lo,hi])] w (.agg (Ws (Cc.Aa lo hi))):=by
 have e1:bits BinOp.and IntKind.u64 (U lo) 1152921487695413247=U (lo&&&1152921487695413247):=by
  rw[show (1152921487695413247:Int)=U 1152921487695413247 by decide,bv]
 have e2:bits BinOp.and IntKind.u64 (U hi) 1152921487695413244=U (hi&&&1152921487695413244):=by
  rw[show (1152921487695413244:Int)=U 1152921487695413244 by decide,bv]
 rw[show (Ws [lo,hi])= #[.int .u64 (U lo),.int .u64 (U hi)]from rfl];go_enter Tryz.func218,Tryz.ntmps218;go_wp2;refine bodyPost_ret (v:= .agg (Ws (Cc.Aa lo hi))) ?_ rfl ⟨rfl,(bR.alloc nR _).alloc (by simp) _⟩;exact results_cell_row rfl _ _ (w.heap.size+1) 210 _ (0,0) _ rfl (heap_alloc2_new w _ _) Tryz.underlying210 rfl Tryz.info2
theorem Tryz.info5:(Tryz.prog.info? 208).map (·.size)=some 5:=by kernel_rfl
theorem dH:Ty 208 5:=⟨_,Tryz.underlying208,rfl,Tryz.info5⟩
theorem cU(x:BitVec 64):bits BinOp.and IntKind.u64 (U x) 67108863=U (x&&&67108863):=by
 rw[show (67108863:Int)=U 67108863 by decide,bv]
theorem cO(x:BitVec 64)(k:Int)(n:Nat)(h:(2:Int)^n=k):U x/k=U (x>>>n):=by rw[←h,cP]
theorem eB(x:BitVec 64)(k:Int)(n:Nat)(h:(2:Int)^n=k):IntKind.u64.wrap (U x*k)=U (x<<<n):=by rw[←h,dV]
theorem rA{w:World}{b t:Nat}{y0 y1 y2 y3 y4:BitVec 64}(hb:Blk w b (Ws [y0,y1,y2,y3,y4]) t)(x0 x1 x2 x3 x4:BitVec 64):
  ((((w.setCell ⟨b,0,none⟩ (.int .u64 (U x0))).setCell ⟨b,1,none⟩ (.int .u64 (U x1))).setCell ⟨b,2,none⟩ (.int .u64 (U x2))).setCell ⟨b,3,none⟩ (.int .u64 (U x3))).setCell ⟨b,4,none⟩ (.int .u64 (U x4))=w.setRow b (Ws [x0,x1,x2,x3,x4]):=by
 rw[hb.set,(hb.row _).set,setRow_setRow,(hb.row _).set,setRow_setRow,(hb.row _).set,setRow_setRow,(hb.row _).set,setRow_setRow];rfl
theorem dJ(lo hi ab:BitVec 64)(w:World):
  Rw 217 #[.agg (Ws [lo,hi]),.int .u64 (U ab)] w (.agg (Ws (Cc.ym lo hi ab))):=by
 have a1:=cU lo;have a2:bits BinOp.and IntKind.u64 (U lo/67108864) 67108863=U (lo>>>26&&&67108863):=by rw[cO lo 67108864 26 rfl,cU]
 have a3:bits BinOp.and IntKind.u64 (bits BinOp.or IntKind.u64 (U lo/4503599627370496) (IntKind.u64.wrap (U hi*4096))) 67108863=U ((lo>>>52|||hi<<<12)&&&67108863):=by
  rw[cO lo 4503599627370496 52 rfl,eB hi 4096 12 rfl,bB,cU]
 have a4:bits BinOp.and IntKind.u64 (U hi/16384) 67108863=U (hi>>>14&&&67108863):=by rw[cO hi 16384 14 rfl,cU]
 have a5:bits BinOp.or IntKind.u64 (U hi/1099511627776) (IntKind.u64.wrap (U ab*16777216))=U (hi>>>40|||ab<<<24):=by
  rw[cO hi 1099511627776 40 rfl,eB ab 16777216 24 rfl,bB]
 have HR:Hid (Cc.ym lo hi ab= [lo&&&67108863,lo>>>26&&&67108863,(lo>>>52|||hi<<<12)&&&67108863,hi>>>14&&&67108863,hi>>>40|||ab<<<24]):=by
  have:Cc.ym lo hi ab= [lo&&&67108863,lo>>>26&&&67108863,(lo>>>52|||hi<<<12)&&&67108863,hi>>>14&&&67108863,hi>>>40|||ab<<<24]:=rfl;exact this
 generalize Cc.ym lo hi ab=R at HR⊢;generalize lo&&&67108863=x0 at a1 HR;generalize lo>>>26&&&67108863=x1 at a2 HR;generalize (lo>>>52|||hi<<<12)&&&67108863=x2 at a3 HR;generalize hi>>>14&&&67108863=x3 at a4 HR;generalize hi>>>40|||ab<<<24=x4 at a5 HR
 rw[show (Ws [lo,hi])= #[.int .u64 (U lo),.int .u64 (U hi)]from rfl];go_enter Tryz.func217,Tryz.ntmps217;go_wp2_with fail;go_quiet (fail)
 have hb: ∀n,Blk (((w.alloc (.cells #[.int .u64 (U lo),.int .u64 (U hi)] 210)).alloc (.cells #[.int .u64 0,.int .u64 0,.int .u64 0,.int .u64 0,.int .u64 0] 208)).drewN n) (w.heap.size+1) (Ws [0,0,0,0,0]) 208:=fun n=>heap_alloc2_new w _ _
 have BI: ∀n,Below w.heap.size w (((w.alloc (.cells #[.int .u64 (U lo),.int .u64 (U hi)] 210)).alloc (.cells #[.int .u64 0,.int .u64 0,.int .u64 0,.int .u64 0,.int .u64 0] 208)).drewN n):=fun n=>below_drewN ((bR.alloc nR _).alloc (by simp) _) _
 go_wp2;rw[rA (hb _)];refine bodyPost_ret (v:= .agg (Ws [x0,x1,x2,x3,x4])) ?_ rfl ⟨by rw[show R=_ from HR.out],below_setRow (BI _) (by omega) _⟩;exact results_cell_row rfl _ _ (w.heap.size+1) 208 _ (0,0) _ rfl ((hb _).row _) Tryz.underlying208 rfl Tryz.info5
namespace Cc
def plusTo(a b:List (BitVec 64)):Nat→List (BitVec 64)
 |0=>a
 |k+1=>(plusTo a b k).set k ((plusTo a b k).getD k 0+b.getD k 0)
theorem plusTo_length(a b:List (BitVec 64))(k:Nat):(plusTo a b k).length=a.length:=by
 induction k with
 |zero=>rfl
 |succ k ih=>simp[plusTo,ih]
def plus(a b:List (BitVec 64)):List (BitVec 64):=plusTo a b 5
def carTo(a:List (BitVec 64))(o:BitVec 64):Nat→List (BitVec 64)×BitVec 64
 |0=>(a,o)
 |k+1=>(((carTo a o k).1.set k ((carTo a o k).1.getD k 0+(carTo a o k).2)).set k (((carTo a o k).1.getD k 0+(carTo a o k).2)&&&67108863),((carTo a o k).1.getD k 0+(carTo a o k).2)>>>26)
theorem carTo_length(a:List (BitVec 64))(o:BitVec 64)(k:Nat):(carTo a o k).1.length=a.length:=by
 induction k with
 |zero=>rfl
 |succ k ih=>simp[carTo,ih]
def carEnd(l:List (BitVec 64))(o:BitVec 64):List (BitVec 64):=
 ((l.set 0 (l.getD 0 0+5*o)).set 1 (l.getD 1 0+(l.getD 0 0+5*o)>>>26)).set 0 ((l.getD 0 0+5*o)&&&67108863)
def carry(a:List (BitVec 64)):List (BitVec 64):=carEnd (carTo a 0 5).1 (carTo a 0 5).2
theorem carry_length(a:List (BitVec 64)):(carry a).length=a.length:=by simp[carry,carEnd,carTo_length]
end Cc
theorem j6(x:BitVec 64):IntKind.u64.wrap (5*U x)=U (5*x):=by
 rw[IntKind.wrap_u64];unfold U;rw[BitVec.toNat_mul];simp
theorem cv(l:List (BitVec 64))(h:l.length=5): ∃x0 x1 x2 x3 x4,l= [x0,x1,x2,x3,x4]:=by
 match l,h with
 | [x0,x1,x2,x3,x4],_=>exact⟨x0,x1,x2,x3,x4,rfl⟩
theorem cN{w:World}{b t:Nat}{x0 x1 x2 x3 x4:BitVec 64}(h:Blk w b (Ws [x0,x1,x2,x3,x4]) t):
  w.cell? ⟨b,0,none⟩=some (.int .u64 (U x0))∧w.cell? ⟨b,1,none⟩=some (.int .u64 (U x1))∧w.cell? ⟨b,2,none⟩=some (.int .u64 (U x2))∧w.cell? ⟨b,3,none⟩=some (.int .u64 (U x3))∧w.cell? ⟨b,4,none⟩=some (.int .u64 (U x4)):=
 ⟨h.cell 0,h.cell 1,h.cell 2,h.cell 3,h.cell 4⟩
theorem Z5:(#[.int .u64 0,.int .u64 0,.int .u64 0,.int .u64 0,.int .u64 0]:Array Value)=Ws [0,0,0,0,0]:=rfl
theorem nE(a b:List (BitVec 64))(w:World)(ha:a.length=5)(hb:b.length=5):
  Rw 221 #[.agg (Ws a),.agg (Ws b)] w (.agg (Ws (Cc.plus a b))):=by
 have sa:=Wz ha;have sb:=Wz hb;have hb1:=Blk.alloc (Blk.alloc (Blk.new w (Ws a) 208) (.cells (Ws b) 208)) (.cells (Ws [0,0,0,0,0]) 208);have hb2:=Blk.alloc (Blk.new (w.alloc (.cells (Ws a) 208)) (Ws b) 208) (.cells (Ws [0,0,0,0,0]) 208);have hb3:=Blk.new ((w.alloc (.cells (Ws a) 208)).alloc (.cells (Ws b) 208)) (Ws [0,0,0,0,0]) 208;have BI:Below w.heap.size w (((w.alloc (.cells (Ws a) 208)).alloc (.cells (Ws b) 208)).alloc (.cells (Ws [0,0,0,0,0]) 208)):=
  ((bR.alloc nR _).alloc (by simp) _).alloc (by simp;omega) _
 rw[show (w.alloc (.cells (Ws a) 208)).heap.size=w.heap.size+1 by simp]at hb2;rw[show ((w.alloc (.cells (Ws a) 208)).alloc (.cells (Ws b) 208)).heap.size=w.heap.size+1+1 by simp]at hb3;go_enter Tryz.func221,Tryz.ntmps221;go_wp2_with fail;rw[Z5];generalize ((w.alloc (.cells (Ws a) 208)).alloc (.cells (Ws b) 208)).alloc (.cells (Ws [0,0,0,0,0]) 208)=w1 at hb1 hb2 hb3 BI⊢;go_loopw [6] (fun i wr=> ∃k:Nat,k≤5∧i= .int .i64 k∧Blk wr w.heap.size (Ws (Cc.plusTo a b k)) 208∧Blk wr (w.heap.size+1) (Ws b) 208∧Blk wr (w.heap.size+1+1) (Ws [0,0,0,0,0]) 208∧Below w.heap.size w wr) (fun i _=>5 - (intOf i).toNat)
 case atStart=>exact⟨0,by omega,rfl,hb1,hb2,hb3,BI⟩
 case round=>
  clear hb1 hb2 hb3 BI w1;obtain⟨k,hk,rfl,hb1,hb2,hb3,BI⟩:=hrel;by_cases hlt:k<5
  ·have c1:=hb1.cell k;rw[au _ _ (by rw[Cc.plusTo_length];omega)]at c1;have c2:=hb2.cell k;rw[au _ _ (by omega)]at c2;have f1:=hb1.frozen k;have HS:Hid (Cc.plusTo a b (k+1)=(Cc.plusTo a b k).set k ((Cc.plusTo a b k).getD k 0+b.getD k 0)):=by
    have:Cc.plusTo a b (k+1)=(Cc.plusTo a b k).set k ((Cc.plusTo a b k).getD k 0+b.getD k 0):=rfl;exact this
   generalize (Cc.plusTo a b k).getD k 0=x at c1 HS;generalize b.getD k 0=y at c2 HS;have i1:(k:Int)<5:=by omega
   go_wp2_with fail;go_region
   go_wp2;go_roundw
   case rel=>
    rw[aF,hb1.set,aC];exact⟨k+1,by omega,by go_num,by rw[show Cc.plusTo a b (k+1)=_ from HS.out];exact hb1.row _,hb2.other (by omega) _,hb3.other (by omega) _,(below_setRow BI (by omega) _).drew⟩
   case measure=>simp[intOf];omega
  ·have hk8:k=5:=by omega
   subst hk8;have g0:=hb1;have g1:=hb3;unfold Blk at g0 g1;rw[show Cc.plusTo a b 5=Cc.plus a b from rfl]at g0;have hl:(Ws (Cc.plus a b)).size=5:=by rw[av];unfold Cc.plus;rw[Cc.plusTo_length,ha]
   have e0:(Ws [0,0,0,0,0]).size=5:=by rw[av];rfl
   go_wp2_with (first
    |(refine ld dH rfl rfl w.heap.size rfl g0 hl ?_)
    |(refine st dH rfl rfl (w.heap.size+1+1) rfl rfl g1 hl e0 (ar _) ?_))
   refine bodyPost_ret (v:= .agg (Ws (Cc.plus a b))) ?_ rfl ⟨rfl,below_setRow BI (by omega) _⟩;exact rr dH rfl rfl (hb3.row _) hl
theorem ms(a:List (BitVec 64))(w:World)(ha:a.length=5):
  Rw 244 #[.agg (Ws a)] w (.agg (Ws (Cc.carry a))):=by
 have sa:=Wz ha;have hb1:Blk ((w.alloc (.cells (Ws a) 208)).alloc (.cells (Ws [0,0,0,0,0]) 208)) w.heap.size (Ws a) 208:=heap_alloc2_old w _ _;have hb2:Blk ((w.alloc (.cells (Ws a) 208)).alloc (.cells (Ws [0,0,0,0,0]) 208)) (w.heap.size+1) (Ws [0,0,0,0,0]) 208:=heap_alloc2_new w _ _;have BI:Below w.heap.size w ((w.alloc (.cells (Ws a) 208)).alloc (.cells (Ws [0,0,0,0,0]) 208)):=(bR.alloc nR _).alloc (by simp) _;go_enter Tryz.func244,Tryz.ntmps244;go_wp2_with fail;rw[Z5];generalize (w.alloc (.cells (Ws a) 208)).alloc (.cells (Ws [0,0,0,0,0]) 208)=w1 at hb1 hb2 BI⊢;rw[show Value.int IntKind.u64 0= .int .u64 (U 0)from rfl];go_loopw [3,5] (fun o i wr=> ∃k:Nat,k≤5∧i= .int .i64 k∧o= .int .u64 (U (Cc.carTo a 0 k).2)∧Blk wr w.heap.size (Ws (Cc.carTo a 0 k).1) 208∧Blk wr (w.heap.size+1) (Ws [0,0,0,0,0]) 208∧Below w.heap.size w wr) (fun _ i _=>5 - (intOf i).toNat)
 case atStart=>exact⟨0,by omega,rfl,rfl,hb1,hb2,BI⟩
 case round=>
  clear hb1 hb2 BI w1;obtain⟨k,hk,rfl,rfl,hb1,hb2,BI⟩:=hrel;by_cases hlt:k<5
  ·have HS:Hid (Cc.carTo a 0 (k+1)=(((Cc.carTo a 0 k).1.set k ((Cc.carTo a 0 k).1.getD k 0+(Cc.carTo a 0 k).2)).set k (((Cc.carTo a 0 k).1.getD k 0+(Cc.carTo a 0 k).2)&&&67108863),((Cc.carTo a 0 k).1.getD k 0+(Cc.carTo a 0 k).2)>>>26)):=by
    have:Cc.carTo a 0 (k+1)=(((Cc.carTo a 0 k).1.set k ((Cc.carTo a 0 k).1.getD k 0+(Cc.carTo a 0 k).2)).set k (((Cc.carTo a 0 k).1.getD k 0+(Cc.carTo a 0 k).2)&&&67108863),((Cc.carTo a 0 k).1.getD k 0+(Cc.carTo a 0 k).2)>>>26):=rfl;exact this
   have hlL:(Cc.carTo a 0 k).1.length=5:=by rw[Cc.carTo_length,ha]
   generalize (Cc.carTo a 0 k).1=L at hb1 HS hlL;generalize (Cc.carTo a 0 k).2=o at HS⊢;have c1:=hb1.cell k;rw[au _ _ (by omega)]at c1;have f1:=hb1.frozen k;generalize L.getD k 0=x at c1 HS;have i1:(k:Int)<5:=by omega
   have a1:=aF x o;have a2:=cU (x+o);have a3:=cO (x+o) 67108864 26 rfl;generalize x+o=y at a1 a2 a3 HS;generalize y&&&67108863=z at a2 HS;generalize y>>>26=q at a3 HS;go_wp2;go_roundw
   case rel=>
    rw[hb1.set,(hb1.row _).set,setRow_setRow,aC,aC];refine⟨k+1,by omega,by go_num,?_,?_,hb2.other (by omega) _,below_setRow BI (by omega) _⟩
    ·rw[show Cc.carTo a 0 (k+1)=_ from HS.out]
    ·rw[show Cc.carTo a 0 (k+1)=_ from HS.out];exact hb1.row _
   case measure=>simp[intOf];omega
  ·have hk8:k=5:=by omega
   subst hk8;rw[show ((5:Nat):Int)=5 from rfl];have HE:Hid (Cc.carry a=Cc.carEnd (Cc.carTo a 0 5).1 (Cc.carTo a 0 5).2):=by
    have:Cc.carry a=Cc.carEnd (Cc.carTo a 0 5).1 (Cc.carTo a 0 5).2:=rfl;exact this
   have hlL:(Cc.carTo a 0 5).1.length=5:=by rw[Cc.carTo_length,ha]
   generalize (Cc.carTo a 0 5).1=L at hb1 HE hlL;generalize (Cc.carTo a 0 5).2=o at HE⊢;obtain⟨x,y,l2,l3,l4,rfl⟩:=cv L hlL;have HE2:Hid (Cc.carEnd [x,y,l2,l3,l4] o= [(x+5*o)&&&67108863,y+(x+5*o)>>>26,l2,l3,l4]):=by
    have:Cc.carEnd [x,y,l2,l3,l4] o= [(x+5*o)&&&67108863,y+(x+5*o)>>>26,l2,l3,l4]:=rfl;exact this
   obtain⟨c0,c1,c2,c3,c4⟩:=cN hb1;obtain⟨d0,d1,d2,d3,d4⟩:=cN hb2;have f0:=hb1.frozen 0;have f1:=hb1.frozen 1;have k0:=hb2.frozen 0;have k1:=hb2.frozen 1;have k2:=hb2.frozen 2;have k3:=hb2.frozen 3;have k4:=hb2.frozen 4;have a0:IntKind.u64.wrap (5*U o)=U (5*o):=j6 o;generalize 5*o=p at a0 HE2;have a1:=aF x p;have a2:=cU (x+p);have a3:=cO (x+p) 67108864 26 rfl;generalize x+p=u at a1 a2 a3 HE2;generalize u&&&67108863=z at a2 HE2;generalize u>>>26=q at a3 HE2;have a4:=aF y q;generalize y+q=v at a4 HE2;have hb3:Blk (((wr.setCell ⟨w.heap.size,0,none⟩ (.int .u64 (U u))).setCell ⟨w.heap.size,1,none⟩ (.int .u64 (U v))).setCell ⟨w.heap.size,0,none⟩ (.int .u64 (U z))) (w.heap.size+1) (Ws [0,0,0,0,0]) 208:=by
    rw[hb1.set,(hb1.row _).set,setRow_setRow,(hb1.row _).set,setRow_setRow];exact hb2.other (by omega) _
   have BT:Below w.heap.size w (((wr.setCell ⟨w.heap.size,0,none⟩ (.int .u64 (U u))).setCell ⟨w.heap.size,1,none⟩ (.int .u64 (U v))).setCell ⟨w.heap.size,0,none⟩ (.int .u64 (U z))):=((BI.setCell nR _).setCell nR _).setCell nR _;go_wp2;rw[rA hb3];refine bodyPost_ret (v:= .agg (Ws [z,v,l2,l3,l4])) ?_ rfl ⟨by rw[show Cc.carry a=_ from HE.out,show Cc.carEnd [x,y,l2,l3,l4] o=_ from HE2.out],below_setRow BT (by omega) _⟩;exact results_cell_row rfl _ _ (w.heap.size+1) 208 _ (0,0) _ rfl (hb3.row _) Tryz.underlying208 rfl Tryz.info5
namespace Cc
def tstep(s:List (BitVec 64))(i j:Nat)(p:BitVec 64):List (BitVec 64):=
 if i+j<5 then s.set (i+j) (s.getD (i+j) 0+p)else s.set (i+j - 5) (s.getD (i+j - 5) 0+5*p)
theorem tstep_length(s:List (BitVec 64))(i j:Nat)(p:BitVec 64):(tstep s i j p).length=s.length:=by
 unfold tstep;split<;>simp
def rowT(a b s:List (BitVec 64))(i:Nat):Nat→List (BitVec 64)
 |0=>s
 |j+1=>tstep (rowT a b s i j) i j (a.getD i 0*b.getD j 0)
theorem rowT_length(a b s:List (BitVec 64))(i j:Nat):(rowT a b s i j).length=s.length:=by
 induction j with
 |zero=>rfl
 |succ j ih=>simp[rowT,tstep_length,ih]
def timesTo(a b:List (BitVec 64)):Nat→List (BitVec 64)
 |0=> [0,0,0,0,0]
 |i+1=>rowT a b (timesTo a b i) i 5
theorem timesTo_length(a b:List (BitVec 64))(i:Nat):(timesTo a b i).length=5:=by
 induction i with
 |zero=>rfl
 |succ i ih=>simp[timesTo,rowT_length,ih]
def times(a b:List (BitVec 64)):List (BitVec 64):=carry (timesTo a b 5)
theorem times_length(a b:List (BitVec 64)):(times a b).length=5:=by simp[times,carry_length,timesTo_length]
end Cc
theorem tr(x y:BitVec 64):IntKind.u64.wrap (U x*U y)=U (x*y):=by
 rw[IntKind.wrap_u64];unfold U;rw[BitVec.toNat_mul];simp
theorem mX(a b:List (BitVec 64))(w:World)(ha:a.length=5)(hb:b.length=5):
  Rw 220 #[.agg (Ws a),.agg (Ws b)] w (.agg (Ws (Cc.times a b))):=by
 have sa:=Wz ha;have sb:=Wz hb;have hb1:=Blk.alloc (Blk.alloc (Blk.alloc (Blk.new w (Ws a) 208) (.cells (Ws b) 208)) (.cells (Ws [0,0,0,0,0]) 208)) (.cells (Ws [0,0,0,0,0]) 208);have hb2:=Blk.alloc (Blk.alloc (Blk.new (w.alloc (.cells (Ws a) 208)) (Ws b) 208) (.cells (Ws [0,0,0,0,0]) 208)) (.cells (Ws [0,0,0,0,0]) 208);have hb3:=Blk.alloc (Blk.new ((w.alloc (.cells (Ws a) 208)).alloc (.cells (Ws b) 208)) (Ws [0,0,0,0,0]) 208) (.cells (Ws [0,0,0,0,0]) 208);have hb4:=Blk.new (((w.alloc (.cells (Ws a) 208)).alloc (.cells (Ws b) 208)).alloc (.cells (Ws [0,0,0,0,0]) 208)) (Ws [0,0,0,0,0]) 208;have BI:Below w.heap.size w ((((w.alloc (.cells (Ws a) 208)).alloc (.cells (Ws b) 208)).alloc (.cells (Ws [0,0,0,0,0]) 208)).alloc (.cells (Ws [0,0,0,0,0]) 208)):=
  (((bR.alloc nR _).alloc (by simp) _).alloc (by simp;omega) _).alloc (by simp;omega) _
 rw[show (w.alloc (.cells (Ws a) 208)).heap.size=w.heap.size+1 by simp]at hb2;rw[show ((w.alloc (.cells (Ws a) 208)).alloc (.cells (Ws b) 208)).heap.size=w.heap.size+1+1 by simp]at hb3;rw[show (((w.alloc (.cells (Ws a) 208)).alloc (.cells (Ws b) 208)).alloc (.cells (Ws [0,0,0,0,0]) 208)).heap.size=w.heap.size+1+1+1 by simp]at hb4;go_enter Tryz.func220,Tryz.ntmps220;go_wp2_with fail;rw[Z5];generalize (((w.alloc (.cells (Ws a) 208)).alloc (.cells (Ws b) 208)).alloc (.cells (Ws [0,0,0,0,0]) 208)).alloc (.cells (Ws [0,0,0,0,0]) 208)=w1 at hb1 hb2 hb3 hb4 BI⊢;go_loopw [9] (fun i wr=> ∃k:Nat,k≤5∧i= .int .i64 k∧Blk wr w.heap.size (Ws a) 208∧Blk wr (w.heap.size+1) (Ws b) 208∧Blk wr (w.heap.size+1+1) (Ws [0,0,0,0,0]) 208∧Blk wr (w.heap.size+1+1+1) (Ws (Cc.timesTo a b k)) 208∧Below w.heap.size w wr) (fun i _=>5 - (intOf i).toNat)
 case atStart=>exact⟨0,by omega,rfl,hb1,hb2,hb3,hb4,BI⟩
 case round=>
  clear hb1 hb2 hb3 hb4 BI w1;obtain⟨i,hi,rfl,hb1,hb2,hb3,hb4,BI⟩:=hrel;by_cases hlt:i<5
  ·have i1:(i:Int)<5:=by omega
   have hlS:(Cc.timesTo a b i).length=5:=Cc.timesTo_length _ _ _;have HT:Hid (Cc.timesTo a b (i+1)=Cc.rowT a b (Cc.timesTo a b i) i 5):=by
    have:Cc.timesTo a b (i+1)=Cc.rowT a b (Cc.timesTo a b i) i 5:=rfl;exact this
   generalize Cc.timesTo a b i=S at hb4 hlS HT;go_wp2_with fail;go_loopw [12] (fun c wr=> ∃j:Nat,j≤5∧c= .int .i64 j∧Blk wr w.heap.size (Ws a) 208∧Blk wr (w.heap.size+1) (Ws b) 208∧Blk wr (w.heap.size+1+1) (Ws [0,0,0,0,0]) 208∧Blk wr (w.heap.size+1+1+1) (Ws (Cc.rowT a b S i j)) 208∧Below w.heap.size w wr) (fun c _=>5 - (intOf c).toNat)
   case atStart=>exact⟨0,by omega,rfl,hb1,hb2,hb3,hb4,BI⟩
   case round=>
    clear hb1 hb2 hb3 hb4 BI;obtain⟨j,hj,rfl,hb1,hb2,hb3,hb4,BI⟩:=hrel;by_cases hlj:j<5
    ·have j1:(j:Int)<5:=by omega
     have hlL:(Cc.rowT a b S i j).length=5:=by rw[Cc.rowT_length,hlS]
     have HR:Hid (Cc.rowT a b S i (j+1)=Cc.tstep (Cc.rowT a b S i j) i j (a.getD i 0*b.getD j 0)):=by
      have:Cc.rowT a b S i (j+1)=Cc.tstep (Cc.rowT a b S i j) i j (a.getD i 0*b.getD j 0):=rfl;exact this
     generalize Cc.rowT a b S i j=L at hb4 hlL HR;have c1:=hb1.cell i;rw[au _ _ (by omega)]at c1;have c2:=hb2.cell j;rw[au _ _ (by omega)]at c2;generalize a.getD i 0=x at c1 HR;generalize b.getD j 0=y at c2 HR;have a1:=tr x y;generalize x*y=p at a1 HR;by_cases hs:i+j<5
     ·have s1:(i:Int)+(j:Int)<5:=by omega
      have s2:((i:Int)+(j:Int)).toNat=i+j:=by omega
      have s3:(0:Int)≤(i:Int)+(j:Int):=by omega
      have s4:IntKind.i64.wrap ((i:Int)+(j:Int))=(i:Int)+(j:Int):=by rw[IntKind.wrap_i64];omega
      have c3:=hb4.cell (i+j);rw[au _ _ (by omega)]at c3;have f3:=hb4.frozen (i+j);have HS:Hid (Cc.tstep L i j p=L.set (i+j) (L.getD (i+j) 0+p)):=by
       have:Cc.tstep L i j p=L.set (i+j) (L.getD (i+j) 0+p):=by unfold Cc.tstep;rw[if_pos hs]
       exact this
      generalize L.getD (i+j) 0=z at c3 HS;have a2:=aF z p;generalize z+p=q at a2 HS;go_wp2_with fail;go_quiet (fail)
      go_wp2;go_roundw
      case rel=>
       refine⟨j+1,by omega,by go_num,?_,?_,?_,?_,?_⟩
       ·rw[(hb4.drewN _).set];exact(hb1.drewN _).other (by omega) _
       ·rw[(hb4.drewN _).set];exact(hb2.drewN _).other (by omega) _
       ·rw[(hb4.drewN _).set];exact(hb3.drewN _).other (by omega) _
       ·rw[(hb4.drewN _).set,aC,show Cc.rowT a b S i (j+1)=_ from HR.out,show Cc.tstep L i j p=_ from HS.out];exact(hb4.drewN _).row _
       ·exact(below_drewN BI _).setCell (show w.heap.size≤w.heap.size+1+1+1 by omega) _
      case measure=>simp[intOf];omega
     ·have s1: ¬(i:Int)+(j:Int)<5:=by omega
      have s2:((i:Int)+(j:Int) - 5).toNat=i+j - 5:=by omega
      have s3:(0:Int)≤(i:Int)+(j:Int) - 5:=by omega
      have s5:(i:Int)+(j:Int) - 5<5:=by omega
      have s4:IntKind.i64.wrap ((i:Int)+(j:Int))=(i:Int)+(j:Int):=by rw[IntKind.wrap_i64];omega
      have s6:IntKind.i64.wrap ((i:Int)+(j:Int) - 5)=(i:Int)+(j:Int) - 5:=by rw[IntKind.wrap_i64];omega
      have c3:=hb4.cell (i+j - 5);rw[au _ _ (by omega)]at c3;have f3:=hb4.frozen (i+j - 5);have HS:Hid (Cc.tstep L i j p=L.set (i+j - 5) (L.getD (i+j - 5) 0+5*p)):=by
       have:Cc.tstep L i j p=L.set (i+j - 5) (L.getD (i+j - 5) 0+5*p):=by unfold Cc.tstep;rw[if_neg hs]
       exact this
      generalize L.getD (i+j - 5) 0=z at c3 HS;have a3:=j6 p;generalize 5*p=p5 at a3 HS;have a2:=aF z p5;generalize z+p5=q at a2 HS;go_wp2_with fail;go_quiet (fail)
      go_wp2;go_roundw
      case rel=>
       refine⟨j+1,by omega,by go_num,?_,?_,?_,?_,?_⟩
       ·rw[(hb4.drewN _).set];exact(hb1.drewN _).other (by omega) _
       ·rw[(hb4.drewN _).set];exact(hb2.drewN _).other (by omega) _
       ·rw[(hb4.drewN _).set];exact(hb3.drewN _).other (by omega) _
       ·rw[(hb4.drewN _).set,aC,show Cc.rowT a b S i (j+1)=_ from HR.out,show Cc.tstep L i j p=_ from HS.out];exact(hb4.drewN _).row _
       ·exact(below_drewN BI _).setCell (show w.heap.size≤w.heap.size+1+1+1 by omega) _
      case measure=>simp[intOf];omega
    ·have hj5:j=5:=by omega
     subst hj5;go_wp2;go_roundw
     case rel=>exact⟨i+1,by omega,by go_num,hb1,hb2,hb3,by rw[show Cc.timesTo a b (i+1)=_ from HT.out];exact hb4,BI⟩
     case measure=>simp[intOf];omega
  ·have hk8:i=5:=by omega
   subst hk8;rw[show ((5:Nat):Int)=5 from rfl];have hlS:(Cc.timesTo a b 5).length=5:=Cc.timesTo_length _ _ _;have hC:=ms (Cc.timesTo a b 5) wr hlS;rw[show Cc.carry (Cc.timesTo a b 5)=Cc.times a b from rfl]at hC;have HC:Hid (Rw 244 #[.agg (Ws (Cc.timesTo a b 5))] wr (.agg (Ws (Cc.times a b)))):=hC;clear hC;have hl5:(Cc.times a b).length=5:=Cc.times_length _ _;generalize Cc.timesTo a b 5=S at hb4 hlS HC;have g4:=hb4;unfold Blk at g4;have sS:=Wz hlS;go_wp2_with (first
    |(refine ld dH rfl rfl (w.heap.size+1+1+1) rfl g4 sS ?_))
   refine HC.out.mono ?_;rintro e w2 ⟨rfl,hb5⟩;have hq:=hb3.keep hb5;have hst:=ao (l:=Cc.times a b) hq (by rw[hl5,av];rfl);have hs5:=Wz hl5;have BQ:=BI.trans (hb5.mono BI.size);go_wp2;refine bodyPost_ret (v:= .agg (Ws (Cc.times a b))) ?_ rfl ⟨rfl,below_setRow BQ (by omega) _⟩;exact rr dH rfl rfl (hq.row _) hs5
namespace Cc
def wu(a:List (BitVec 64)):Nat→BitVec 64
 |0=>5
 |k+1=>(a.getD k 0+wu a k)>>>26
def lowest(a:List (BitVec 64)):List (BitVec 64):=(carTo a (5*wu a 5) 5).1
theorem lowest_length(a:List (BitVec 64)):(lowest a).length=a.length:=carTo_length _ _ _
end Cc
theorem qK(x0 x1 x2 x3 x4:BitVec 64)(k:Nat)(hk:k<5)(w:World):
  (Instr.index 208 (.agg (Ws [x0,x1,x2,x3,x4])) (.int .i64 k)).run Tryz.prog w= .ok (.int .u64 (U ([x0,x1,x2,x3,x4].getD k 0))) w:=by
 obtain rfl|rfl|rfl|rfl|rfl:k=0∨k=1∨k=2∨k=3∨k=4:=by omega
 all_goals kernel_rfl
theorem rY(l:List (BitVec 64))(hl:l.length=5)(k:Nat)(hk:k<5)(w:World):
  (Instr.index 208 (.agg (Ws l)) (.int .i64 k)).run Tryz.prog w= .ok (.int .u64 (U (l.getD k 0))) w:=by
 obtain⟨x0,x1,x2,x3,x4,rfl⟩:=cv l hl;exact qK x0 x1 x2 x3 x4 k hk w
theorem mb(a:List (BitVec 64))(w:World)(ha:a.length=5):
  Rw 224 #[.agg (Ws a)] w (.agg (Ws (Cc.lowest a))):=by
 have sa:=Wz ha;have hb1:Blk ((w.alloc (.cells (Ws a) 208)).alloc (.cells (Ws [0,0,0,0,0]) 208)) w.heap.size (Ws a) 208:=heap_alloc2_old w _ _;have hb2:Blk ((w.alloc (.cells (Ws a) 208)).alloc (.cells (Ws [0,0,0,0,0]) 208)) (w.heap.size+1) (Ws [0,0,0,0,0]) 208:=heap_alloc2_new w _ _;have BI:Below w.heap.size w ((w.alloc (.cells (Ws a) 208)).alloc (.cells (Ws [0,0,0,0,0]) 208)):=(bR.alloc nR _).alloc (by simp) _;have g1:=hb1;unfold Blk at g1;rw[←Z5]at g1;go_enter Tryz.func224,Tryz.ntmps224;go_wp2_with (first
  |(refine ld dH rfl rfl w.heap.size rfl g1 sa ?_))
 rw[Z5];clear g1;generalize (w.alloc (.cells (Ws a) 208)).alloc (.cells (Ws [0,0,0,0,0]) 208)=w1 at hb1 hb2 BI⊢;rw[show Value.int IntKind.u64 5= .int .u64 (U 5)from rfl];go_loop [3,9] (fun o i=> ∃k:Nat,k≤5∧i= .int .i64 k∧o= .int .u64 (U (Cc.wu a k))) (fun _ i=>5 - (intOf i).toNat)
 case atStart=>exact⟨0,by omega,rfl,rfl⟩
 case round=>
  obtain⟨k,hk,rfl,rfl⟩:=hrel;by_cases hlt:k<5
  ·have hix:=rY a ha k hlt;have i1:(k:Int)<5:=by omega
   have HS:Hid (Cc.wu a (k+1)=(a.getD k 0+Cc.wu a k)>>>26):=by
    have:Cc.wu a (k+1)=(a.getD k 0+Cc.wu a k)>>>26:=rfl;exact this
   generalize a.getD k 0=x at hix HS;generalize Cc.wu a k=o at HS⊢;have a1:=aF x o;have a3:=cO (x+o) 67108864 26 rfl;generalize x+o=y at a1 a3 HS;generalize y>>>26=q at a3 HS;go_wp2;go_round
   case rel=>exact⟨k+1,by omega,by go_num,by rw[show Cc.wu a (k+1)=_ from HS.out]⟩
   case measure=>simp[intOf];omega
  ·have hk5:k=5:=by omega
   subst hk5;rw[show ((5:Nat):Int)=5 from rfl];have HE:Hid (Cc.lowest a=(Cc.carTo a (5*Cc.wu a 5) 5).1):=by
    have:Cc.lowest a=(Cc.carTo a (5*Cc.wu a 5) 5).1:=rfl;exact this
   generalize Cc.wu a 5=o at HE⊢;have a0:=j6 o;generalize 5*o=p at a0 HE;go_wp2;go_loopw [6,19] (fun o i wr=> ∃k:Nat,k≤5∧i= .int .i64 k∧o= .int .u64 (U (Cc.carTo a p k).2)∧Blk wr w.heap.size (Ws (Cc.carTo a p k).1) 208∧Blk wr (w.heap.size+1) (Ws [0,0,0,0,0]) 208∧Below w.heap.size w wr) (fun _ i _=>5 - (intOf i).toNat)
   case atStart=>exact⟨0,by omega,rfl,rfl,hb1,hb2,BI⟩
   case round=>
    clear hb1 hb2 BI;obtain⟨k,hk,rfl,rfl,hb1,hb2,BI⟩:=hrel;by_cases hlt:k<5
    ·have HS:Hid (Cc.carTo a p (k+1)=(((Cc.carTo a p k).1.set k ((Cc.carTo a p k).1.getD k 0+(Cc.carTo a p k).2)).set k (((Cc.carTo a p k).1.getD k 0+(Cc.carTo a p k).2)&&&67108863),((Cc.carTo a p k).1.getD k 0+(Cc.carTo a p k).2)>>>26)):=by
      have:Cc.carTo a p (k+1)=(((Cc.carTo a p k).1.set k ((Cc.carTo a p k).1.getD k 0+(Cc.carTo a p k).2)).set k (((Cc.carTo a p k).1.getD k 0+(Cc.carTo a p k).2)&&&67108863),((Cc.carTo a p k).1.getD k 0+(Cc.carTo a p k).2)>>>26):=rfl;exact this
     have hlL:(Cc.carTo a p k).1.length=5:=by rw[Cc.carTo_length,ha]
     generalize (Cc.carTo a p k).1=L at hb1 HS hlL;generalize (Cc.carTo a p k).2=o' at HS⊢;have c1:=hb1.cell k;rw[au _ _ (by omega)]at c1;have f1:=hb1.frozen k;generalize L.getD k 0=x at c1 HS;have i1:(k:Int)<5:=by omega
     have a1:=aF x o';have a2:=cU (x+o');have a3:=cO (x+o') 67108864 26 rfl;generalize x+o'=y at a1 a2 a3 HS;generalize y&&&67108863=z at a2 HS;generalize y>>>26=q at a3 HS;go_wp2;go_roundw
     case rel=>
      rw[hb1.set,(hb1.row _).set,setRow_setRow,aC,aC];refine⟨k+1,by omega,by go_num,?_,?_,hb2.other (by omega) _,below_setRow BI (by omega) _⟩
      ·rw[show Cc.carTo a p (k+1)=_ from HS.out]
      ·rw[show Cc.carTo a p (k+1)=_ from HS.out];exact hb1.row _
     case measure=>simp[intOf];omega
    ·have hk8:k=5:=by omega
     subst hk8;have hlL:(Cc.carTo a p 5).1.length=5:=by rw[Cc.carTo_length,ha]
     generalize (Cc.carTo a p 5).1=L at hb1 HE hlL;have g1:=hb1;have g2:=hb2;unfold Blk at g1 g2;have hl:=Wz hlL;have e0:(Ws [0,0,0,0,0]).size=5:=by rw[av];rfl
     go_wp2_with (first
      |(refine ld dH rfl rfl w.heap.size rfl g1 hl ?_)
      |(refine st dH rfl rfl (w.heap.size+1) rfl rfl g2 hl e0 (ar _) ?_))
     refine bodyPost_ret (v:= .agg (Ws L)) ?_ rfl ⟨by rw[show Cc.lowest a=L from HE.out],below_setRow BI (by omega) _⟩;exact rr dH rfl rfl (hb2.row _) hl
namespace Cc
def Ac(x:BitVec 64)(k:Nat):UInt8:=UInt8.ofNat (x>>>(8*k)).toNat
def yw(l:List UInt8)(off:Nat)(x:BitVec 64):Nat→List UInt8
 |0=>l
 |k+1=>(yw l off x k).set (off+k) (Ac x k)
theorem xJ(l:List UInt8)(off:Nat)(x:BitVec 64)(k:Nat):(yw l off x k).length=l.length:=by
 induction k with
 |zero=>rfl
 |succ k ih=>simp[yw,ih]
theorem Ab(x:BitVec 64)(k:Nat):U x/2^(8*k)%256=((Ac x k).toNat:Int):=by
 rw[cP];unfold Ac U;simp
def over(x y c:BitVec 64):BitVec 64:=BitVec.ofNat 64 ((x.toNat+y.toNat+c.toNat)/18446744073709551616)
theorem over_le(x y c:BitVec 64)(h:c.toNat≤1):(over x y c).toNat≤1:=by
 have hx:=x.isLt;have hy:=y.isLt;unfold over;rw[BitVec.toNat_ofNat];have:(x.toNat+y.toNat+c.toNat)/18446744073709551616≤1:=by omega
 omega
def wO(x y:BitVec 64):Nat→List UInt8
 |0=>ag 16
 |i+1=>yw (wO x y i) (8*i) ([x,y].getD i 0) 8
theorem yN(x y:BitVec 64)(i:Nat):(wO x y i).length=16:=by
 induction i with
 |zero=>rfl
 |succ i ih=>simp only[wO,xJ,ih]
def vj(h:List (BitVec 64)):BitVec 64:=h.getD 0 0|||h.getD 1 0<<<26|||h.getD 2 0<<<52
def wP(h:List (BitVec 64)):BitVec 64:=h.getD 2 0>>>12|||h.getD 3 0<<<14|||h.getD 4 0<<<40
def sumLow(h:List (BitVec 64))(s0:BitVec 64):BitVec 64:=vj h+s0+0
def sumHigh(h:List (BitVec 64))(s0 s1:BitVec 64):BitVec 64:=wP h+s1+over (vj h) s0 0
def wt(h:List (BitVec 64))(s0 s1:BitVec 64):List UInt8:=wO (sumLow h s0) (sumHigh h s0 s1) 2
theorem tellSum_length(h:List (BitVec 64))(s0 s1:BitVec 64):(wt h s0 s1).length=16:=yN _ _ _
end Cc
theorem jc(x y c:BitVec 64)(h:c.toNat≤1)(w:World):
  (callFunc 182 #[.int .u64 (U x),.int .u64 (U y),.int .u64 (U c)]).run Tryz.prog w= .ok (.value (.tuple #[.int .u64 (U (x+y+c)),.int .u64 (U (Cc.over x y c))])) w:=by
 rw[run_callFunc_extern Tryz.func182 (by kernel_rfl) (by kernel_rfl) (by kernel_rfl) (e:=add64Entry) (by kernel_rfl),run_add64 (U x) (U y) (U c) (eP _) (eP _) (eP _) (by unfold U;omega)];have hx:=x.isLt;have hy:=y.isLt;simp only[Result.andThen];have e1:(U x+U y+U c)%18446744073709551616=U (x+y+c):=by
  unfold U;rw[BitVec.toNat_add,BitVec.toNat_add];omega
 have e2:(U x+U y+U c)/18446744073709551616=U (Cc.over x y c):=by
  unfold Cc.over;rw[←dz _ (by omega)];unfold U;omega
 rw[e1,e2]
theorem eh(w:World):Sem.run Tryz.prog (zeroValue 179) w= .ok (.agg (Bs (ag 16))) w:=by kernel_rfl
theorem Tryz.info16b:(Tryz.prog.info? 179).map (·.size)=some 16:=by kernel_rfl
theorem lV:Ty 179 16:=⟨_,Tryz.underlying179,rfl,Tryz.info16b⟩
theorem r5(x y:BitVec 64)(k:Nat)(hk:k<2)(w:World):
  (Instr.index 210 (.agg #[.int .u64 (U x),.int .u64 (U y)]) (.int .i64 k)).run Tryz.prog w= .ok (.int .u64 (U ([x,y].getD k 0))) w:=by
 obtain rfl|rfl:k=0∨k=1:=by omega
 all_goals kernel_rfl
theorem kr(h:List (BitVec 64))(s0 s1:BitVec 64)(w:World)(hh:h.length=5):
  Rw 223 #[.agg (Ws h),.agg (Ws [s0,s1])] w (.agg (Bs (Cc.wt h s0 s1))):=by
 obtain⟨h0,h1,h2,h3,h4,rfl⟩:=cv h hh;have hz:=eh;have p1:bits BinOp.or IntKind.u64 (bits BinOp.or IntKind.u64 (U h0) (IntKind.u64.wrap (U h1*67108864))) (IntKind.u64.wrap (U h2*4503599627370496))=U (Cc.vj [h0,h1,h2,h3,h4]):=by
  rw[eB h1 67108864 26 rfl,bB,eB h2 4503599627370496 52 rfl,bB];rfl
 have p2:bits BinOp.or IntKind.u64 (bits BinOp.or IntKind.u64 (U h2/4096) (IntKind.u64.wrap (U h3*16384))) (IntKind.u64.wrap (U h4*1099511627776))=U (Cc.wP [h0,h1,h2,h3,h4]):=by
  rw[cO h2 4096 12 rfl,eB h3 16384 14 rfl,bB,eB h4 1099511627776 40 rfl,bB];rfl
 have hA:=jc (Cc.vj [h0,h1,h2,h3,h4]) s0 0 (by decide);have hB:=jc (Cc.wP [h0,h1,h2,h3,h4]) s1 (Cc.over (Cc.vj [h0,h1,h2,h3,h4]) s0 0) (Cc.over_le _ _ _ (by decide));rw[show U 0=0 from rfl]at hA;have HE:Hid (Cc.wt [h0,h1,h2,h3,h4] s0 s1=Cc.wO (Cc.vj [h0,h1,h2,h3,h4]+s0+0) (Cc.wP [h0,h1,h2,h3,h4]+s1+Cc.over (Cc.vj [h0,h1,h2,h3,h4]) s0 0) 2):=by
  have:Cc.wt [h0,h1,h2,h3,h4] s0 s1=Cc.wO (Cc.vj [h0,h1,h2,h3,h4]+s0+0) (Cc.wP [h0,h1,h2,h3,h4]+s1+Cc.over (Cc.vj [h0,h1,h2,h3,h4]) s0 0) 2:=rfl;exact this
 generalize Cc.wt [h0,h1,h2,h3,h4] s0 s1=R at HE⊢;generalize Cc.over (Cc.vj [h0,h1,h2,h3,h4]) s0 0=ov at hA hB HE;generalize hX:Cc.vj [h0,h1,h2,h3,h4]+s0+0=X at hA HE;generalize hY:Cc.wP [h0,h1,h2,h3,h4]+s1+ov=Y at hB HE;clear hX hY;generalize Cc.vj [h0,h1,h2,h3,h4]=lw at hA p1;generalize Cc.wP [h0,h1,h2,h3,h4]=hw at hB p2;rw[show (Ws [h0,h1,h2,h3,h4])= #[.int .u64 (U h0),.int .u64 (U h1),.int .u64 (U h2),.int .u64 (U h3),.int .u64 (U h4)]from rfl,show (Ws [s0,s1])= #[.int .u64 (U s0),.int .u64 (U s1)]from rfl];go_enter Tryz.func223,Tryz.ntmps223;go_wp2_with fail;have hb3:Blk ((((w.alloc (.cells #[.int .u64 (U h0),.int .u64 (U h1),.int .u64 (U h2),.int .u64 (U h3),.int .u64 (U h4)] 208)).alloc (.cells #[.int .u64 (U s0),.int .u64 (U s1)] 210)).alloc (.cells (Bs (ag 16)) 179)).alloc (.cells (Bs (ag 16)) 179)) (w.heap.size+1+1) (Bs (ag 16)) 179:=by
  have:=Blk.alloc (Blk.new ((w.alloc (.cells #[.int .u64 (U h0),.int .u64 (U h1),.int .u64 (U h2),.int .u64 (U h3),.int .u64 (U h4)] 208)).alloc (.cells #[.int .u64 (U s0),.int .u64 (U s1)] 210)) (Bs (ag 16)) 179) (.cells (Bs (ag 16)) 179);simpa using this
 have hb4:Blk ((((w.alloc (.cells #[.int .u64 (U h0),.int .u64 (U h1),.int .u64 (U h2),.int .u64 (U h3),.int .u64 (U h4)] 208)).alloc (.cells #[.int .u64 (U s0),.int .u64 (U s1)] 210)).alloc (.cells (Bs (ag 16)) 179)).alloc (.cells (Bs (ag 16)) 179)) (w.heap.size+1+1+1) (Bs (ag 16)) 179:=by
  have:=Blk.new (((w.alloc (.cells #[.int .u64 (U h0),.int .u64 (U h1),.int .u64 (U h2),.int .u64 (U h3),.int .u64 (U h4)] 208)).alloc (.cells #[.int .u64 (U s0),.int .u64 (U s1)] 210)).alloc (.cells (Bs (ag 16)) 179)) (Bs (ag 16)) 179;simpa using this
 have BI:Below w.heap.size w ((((w.alloc (.cells #[.int .u64 (U h0),.int .u64 (U h1),.int .u64 (U h2),.int .u64 (U h3),.int .u64 (U h4)] 208)).alloc (.cells #[.int .u64 (U s0),.int .u64 (U s1)] 210)).alloc (.cells (Bs (ag 16)) 179)).alloc (.cells (Bs (ag 16)) 179)):=
  (((bR.alloc nR _).alloc (by simp) _).alloc (by simp;omega) _).alloc (by simp;omega) _
 generalize (((w.alloc (.cells #[.int .u64 (U h0),.int .u64 (U h1),.int .u64 (U h2),.int .u64 (U h3),.int .u64 (U h4)] 208)).alloc (.cells #[.int .u64 (U s0),.int .u64 (U s1)] 210)).alloc (.cells (Bs (ag 16)) 179)).alloc (.cells (Bs (ag 16)) 179)=w1 at hb3 hb4 BI⊢;clear hA hB p1 p2 hz;go_loopw [50] (fun c wr=> ∃i:Nat,i≤2∧c= .int .i64 i∧Blk wr (w.heap.size+1+1) (Bs (ag 16)) 179∧Blk wr (w.heap.size+1+1+1) (Bs (Cc.wO X Y i)) 179∧Below w.heap.size w wr) (fun c _=>2 - (intOf c).toNat)
 case atStart=>exact⟨0,by omega,rfl,hb3,hb4,BI⟩
 case round=>
  clear hb3 hb4 BI w1;obtain⟨i,hi,rfl,hb3,hb4,BI⟩:=hrel;by_cases hlt:i<2
  ·have i1:(i:Int)<2:=by omega
   have hix:=r5 X Y i hlt;have HT:Hid (Cc.wO X Y (i+1)=Cc.yw (Cc.wO X Y i) (8*i) ([X,Y].getD i 0) 8):=by
    have:Cc.wO X Y (i+1)=Cc.yw (Cc.wO X Y i) (8*i) ([X,Y].getD i 0) 8:=rfl;exact this
   have hlT:(Cc.wO X Y i).length=16:=Cc.yN _ _ _;generalize [X,Y].getD i 0=x at hix HT;generalize Cc.wO X Y i=T at hb4 HT hlT;go_wp2_with fail;go_loopw [54] (fun c wr=> ∃j:Nat,j≤8∧c= .int .i64 j∧Blk wr (w.heap.size+1+1) (Bs (ag 16)) 179∧Blk wr (w.heap.size+1+1+1) (Bs (Cc.yw T (8*i) x j)) 179∧Below w.heap.size w wr) (fun c _=>8 - (intOf c).toNat)
   case atStart=>exact⟨0,by omega,rfl,hb3,hb4,BI⟩
   case round=>
    clear hb3 hb4 BI;obtain⟨j,hj,rfl,hb3,hb4,BI⟩:=hrel;by_cases hlj:j<8
    ·have j1:(j:Int)<8:=by omega
     have hc:=hb4.cell (8*i+j);rw[bU _ _ (by rw[Cc.xJ];omega)]at hc;have hf:=hb4.frozen (8*i+j);have k1:IntKind.i64.wrap (8*(i:Int)+(j:Int))=8*(i:Int)+(j:Int):=by rw[IntKind.wrap_i64];omega
     have k2:8*(i:Int)+(j:Int)<16:=by omega
     have k3:(0:Int)≤8*(i:Int)+(j:Int):=by omega
     have k4:(8*(i:Int)+(j:Int)).toNat=8*i+j:=by omega
     go_wp2;go_roundw
     case rel=>
      refine⟨j+1,by omega,by go_num,?_,?_,?_⟩
      ·rw[hb4.set];exact hb3.other (by omega) _
      ·rw[hb4.set,Cc.Ab,cu];exact hb4.row _
      ·exact BI.setCell (show w.heap.size≤w.heap.size+1+1+1 by omega) _
     case measure=>simp[intOf];omega
    ·have hj5:j=8:=by omega
     subst hj5;go_wp2;go_roundw
     case rel=>exact⟨i+1,by omega,by go_num,hb3,by rw[show Cc.wO X Y (i+1)=_ from HT.out];exact hb4,BI⟩
     case measure=>simp[intOf];omega
  ·have hk8:i=2:=by omega
   subst hk8;have hlT:(Cc.wO X Y 2).length=16:=Cc.yN _ _ _;generalize Cc.wO X Y 2=T at hb4 HE hlT;have g1:=hb4;have g2:=hb3;unfold Blk at g1 g2;have hl:=Bz hlT;have e0:(Bs (ag 16)).size=16:=by rw[ce];rfl
   go_wp2_with (first
    |(refine ld lV rfl rfl (w.heap.size+1+1+1) rfl g1 hl ?_)
    |(refine st lV rfl rfl (w.heap.size+1+1) rfl rfl g2 hl e0 (kp _) ?_))
   refine bodyPost_ret (v:= .agg (Bs T)) ?_ rfl ⟨by rw[show R=T from HE.out],below_setRow BI (by omega) _⟩;exact rr lV rfl rfl (hb3.row _) hl
end Go.Proofs.YtclpbaokadfhhaaGreatDoor
