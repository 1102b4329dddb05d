import Derived.Test.YtclpbaokadfhhaaGreatDoorXc
import Derived.Test.YtclpbaokadfhhaaGreatDoorXj
import Derived.Shelf.Spec.BitsCarry
import Derived.Test.YtclpbaokadfhhaaGreatDoorXi
set_option maxRecDepth 100000
set_option maxHeartbeats 4000000
namespace Go.Proofs.YtclpbaokadfhhaaGreatDoor
open Go.RowKit
theorem Tryz.infoS4:(Tryz.prog.info? 71).map (·.size)=some 4:=by kernel_rfl
theorem t71:Ty 71 4:=⟨_,Tryz.underlying71,rfl,Tryz.infoS4⟩
theorem Tryz.infoM4:(Tryz.prog.info? 70).map (·.size)=some 4:=by kernel_rfl
theorem SZ4:(#[.int .u64 0,.int .u64 0,.int .u64 0,.int .u64 0]:Array Value)=Ws [0,0,0,0]:=rfl
theorem qR(x y b:BitVec 64)(h:b.toNat≤1)(w:World):
  (callFunc 227 #[.int .u64 (U x),.int .u64 (U y),.int .u64 (U b)]).run Tryz.prog w= .ok (.value (.tuple #[.int .u64 (U (x - y - b)),.int .u64 (U (Sc.less x y b))])) w:=by
 have e:=run_sub64 (P:=Tryz.prog) x.toNat y.toNat b.toNat h w;rw[run_callFunc_extern Tryz.func227 (by kernel_rfl) (by kernel_rfl) (by kernel_rfl) (e:=sub64Entry) (by kernel_rfl)];rw[show U x=(x.toNat:Int)from rfl,show U y=(y.toNat:Int)from rfl,show U b=(b.toNat:Int)from rfl,e];have hx:=x.isLt;have hy:=y.isLt;simp only[Result.andThen];have e1:(((x.toNat+18446744073709551616 - y.toNat - b.toNat)%18446744073709551616:Nat):Int)=U (x - y - b):=by
  unfold U;rw[BitVec.toNat_sub,BitVec.toNat_sub];omega
 have e2:((if x.toNat<y.toNat+b.toNat then 1 else 0:Nat):Int)=U (Sc.less x y b):=by
  unfold Sc.less;split<;>rfl
 rw[e1,e2]
theorem nP(w:World):Rw 226 #[] w (.agg (Ws Sc.md)):=by
 go_enter Tryz.func226,Tryz.ntmps226;go_wp2;refine bodyPost_ret (v:= .agg (Ws Sc.md)) ?_ rfl ⟨rfl,bR.alloc nR _⟩;exact results_cell_row rfl _ _ w.heap.size 70 (Ws Sc.md) (0,0) _ rfl (Blk.new w (Ws Sc.md) _) Tryz.underlying70 rfl Tryz.infoM4
theorem sj(x:BitVec 64):bits BinOp.and IntKind.u64 (U x) 1=U (x&&&1):=bv x 1
theorem pO(a:List (BitVec 64))(k:Nat)(w:World)(ha:a.length=4)(hk:k<256):
  Rw 176 #[.agg (Ws a),.int .i64 k] w (.int .u64 (U (Sc.bit a k))):=by
 have sa:=Wz ha;have hb:=Blk.new w (Ws a) 71;have c1:=hb.cell (k/64);rw[au _ _ (by omega)]at c1;have HE:Hid (Sc.bit a k=(a.getD (k/64) 0>>>(k%64))&&&1):=by
  have:Sc.bit a k=(a.getD (k/64) 0>>>(k%64))&&&1:=rfl;exact this
 generalize Sc.bit a k=R at HE⊢;generalize a.getD (k/64) 0=x at c1 HE;have sh:U x/2^(k%64)=U (x>>>(k%64)):=cP x (k%64);have an:=sj (x>>>(k%64));have BI:Below w.heap.size w (w.alloc (.cells (Ws a) 71)):=bR.alloc nR _;clear hb;go_enter Tryz.func176,Tryz.ntmps176;go_wp2;go_ret;exact⟨by rw[show R=_ from HE.out];rfl,BI⟩
theorem pg(a:List (BitVec 64))(bit:BitVec 64)(w:World)(ha:a.length=4):
  Rw 184 #[.agg (Ws a),.int .u64 (U bit)] w (.agg (Ws (Sc.wE a bit))):=by
 have sa:=Wz ha;have a0:=mP bit;have HE:Hid (Sc.wE a bit=Sc.vf a (-bit) 4):=by
  have:Sc.wE a bit=Sc.vf a (-bit) 4:=rfl;exact this
 generalize -bit=m at a0 HE;generalize Sc.wE a bit=R at HE⊢;have hb1:=Blk.alloc (Blk.new w (Ws a) 71) (.cells (Ws [0,0,0,0]) 71);have hb2:=Blk.new (w.alloc (.cells (Ws a) 71)) (Ws [0,0,0,0]) 71;have BI:Below w.heap.size w ((w.alloc (.cells (Ws a) 71)).alloc (.cells (Ws [0,0,0,0]) 71)):=(bR.alloc nR _).alloc (by simp) _;rw[show (w.alloc (.cells (Ws a) 71)).heap.size=w.heap.size+1 by simp]at hb2;go_enter Tryz.func184,Tryz.ntmps184;go_wp2_with fail;rw[SZ4];generalize (w.alloc (.cells (Ws a) 71)).alloc (.cells (Ws [0,0,0,0]) 71)=w1 at hb1 hb2 BI⊢;go_loopw [6] (fun i wr=> ∃k:Nat,k≤4∧i= .int .i64 k∧Blk wr w.heap.size (Ws (Sc.vf a m k)) 71∧Blk wr (w.heap.size+1) (Ws [0,0,0,0]) 71∧Below w.heap.size w wr) (fun i _=>4 - (intOf i).toNat)
 case atStart=>exact⟨0,by omega,rfl,hb1,hb2,BI⟩
 case round=>
  clear hb1 hb2 BI w1;obtain⟨k,hk,rfl,hb1,hb2,BI⟩:=hrel;by_cases hlt:k<4
  ·have c1:=hb1.cell k;rw[au _ _ (by rw[Sc.yo];omega)]at c1;have f1:=hb1.frozen k;have HS:Hid (Sc.vf a m (k+1)=(Sc.vf a m k).set k ((Sc.vf a m k).getD k 0&&&m)):=by
    have:Sc.vf a m (k+1)=(Sc.vf a m k).set k ((Sc.vf a m k).getD k 0&&&m):=rfl;exact this
   generalize (Sc.vf a m k).getD k 0=x at c1 HS;have i1:(k:Int)<4:=by omega
   have a1:=bv x m;generalize x&&&m=d at a1 HS;go_wp2;go_roundw
   case rel=>
    rw[hb1.set,aC];exact⟨k+1,by omega,by go_num,by rw[show Sc.vf a m (k+1)=_ from HS.out];exact hb1.row _,hb2.other (by omega) _,below_setRow BI (by omega) _⟩
   case measure=>simp[intOf];omega
  ·have hk8:k=4:=by omega
   subst hk8;have hlS:(Sc.vf a m 4).length=4:=by rw[Sc.yo,ha]
   generalize Sc.vf a m 4=S at hb1 hlS HE;have g0:=hb1;unfold Blk at g0;have sS:=Wz hlS;have hst:=ao (l:=S) hb2 (by rw[hlS];rfl);go_wp2_with (first
    |(refine ld t71 rfl rfl w.heap.size rfl g0 sS ?_))
   refine bodyPost_ret (v:= .agg (Ws S)) ?_ rfl ⟨by rw[show R=_ from HE.out],below_setRow BI (by omega) _⟩;exact rr t71 rfl rfl (hb2.row _) sS
theorem nS(x0 x1 x2 x3:BitVec 64)(k:Nat)(hk:k<4)(w:World):
  (Instr.index 70 (.agg (Ws [x0,x1,x2,x3])) (.int .i64 k)).run Tryz.prog w= .ok (.int .u64 (U ([x0,x1,x2,x3].getD k 0))) w:=by
 obtain rfl|rfl|rfl|rfl:k=0∨k=1∨k=2∨k=3:=by omega
 all_goals kernel_rfl
theorem pi(x m:BitVec 64):bits BinOp.andNot IntKind.u64 (U x) (U m)=U (x&&& ~~~m):=by
 unfold U;rw[u64_andNot_nat _ _ x.isLt m.isLt,BitVec.toNat_and,BitVec.toNat_not]
theorem nQ(a:List (BitVec 64))(w:World)(ha:a.length=4):
  Rw 183 #[.agg (Ws a)] w (.agg (Ws (Sc.vO a))):=by
 have sa:=Wz ha;have HE:Hid (Sc.vO a=Sc.ve a (Sc.uC a 4).1 (-(Sc.uC a 4).2) 4):=by
  have:Sc.vO a=Sc.ve a (Sc.uC a 4).1 (-(Sc.uC a 4).2) 4:=rfl;exact this
 generalize Sc.vO a=R at HE⊢;have H1:Hid (Rv 226 #[] (.agg (Ws Sc.md))):=nP;have hb1:=Blk.alloc (Blk.alloc (Blk.new w (Ws a) 71) (.cells (Ws [0,0,0,0]) 71)) (.cells (Ws [0,0,0,0]) 71);have hb2:=Blk.alloc (Blk.new (w.alloc (.cells (Ws a) 71)) (Ws [0,0,0,0]) 71) (.cells (Ws [0,0,0,0]) 71);have hb3:=Blk.new ((w.alloc (.cells (Ws a) 71)).alloc (.cells (Ws [0,0,0,0]) 71)) (Ws [0,0,0,0]) 71;have BI:Below w.heap.size w (((w.alloc (.cells (Ws a) 71)).alloc (.cells (Ws [0,0,0,0]) 71)).alloc (.cells (Ws [0,0,0,0]) 71)):=
  ((bR.alloc nR _).alloc (by simp) _).alloc (by simp;omega) _
 rw[show (w.alloc (.cells (Ws a) 71)).heap.size=w.heap.size+1 by simp]at hb2;rw[show ((w.alloc (.cells (Ws a) 71)).alloc (.cells (Ws [0,0,0,0]) 71)).heap.size=w.heap.size+1+1 by simp]at hb3;go_enter Tryz.func183,Tryz.ntmps183;go_wp2_with fail;rw[SZ4];generalize ((w.alloc (.cells (Ws a) 71)).alloc (.cells (Ws [0,0,0,0]) 71)).alloc (.cells (Ws [0,0,0,0]) 71)=w1 at hb1 hb2 hb3 BI⊢;refine gv H1 fun w2 k2=> ?_
 replace hb1:=hb1.keep k2;replace hb2:=hb2.keep k2;replace hb3:=hb3.keep k2;replace BI:=BI.trans (k2.mono BI.size);clear k2 H1;go_wp2_with fail;go_loopw [4,10] (fun o i wr=> ∃k:Nat,k≤4∧i= .int .i64 k∧o= .int .u64 (U (Sc.uC a k).2)∧Blk wr (w.heap.size+1+1) (Ws (Sc.uC a k).1) 71∧Blk wr w.heap.size (Ws a) 71∧Blk wr (w.heap.size+1) (Ws [0,0,0,0]) 71∧Below w.heap.size w wr) (fun _ i _=>4 - (intOf i).toNat)
 case atStart=>exact⟨0,by omega,rfl,rfl,hb3,hb1,hb2,BI⟩
 case round=>
  clear hb1 hb2 hb3 BI w2;obtain⟨k,hk,rfl,rfl,hb3,hb1,hb2,BI⟩:=hrel;have hl3:(Sc.uC a k).1.length=4:=Sc.Ak a k;by_cases hlt:k<4
  ·have c1:=hb1.cell k;rw[au _ _ (by omega)]at c1;have f3:=hb3.frozen k;have c3:=hb3.cell k;rw[au _ _ (by omega)]at c3;have HS:Hid (Sc.uC a (k+1)=((Sc.uC a k).1.set k (a.getD k 0 - Sc.md.getD k 0 - (Sc.uC a k).2),Sc.less (a.getD k 0) (Sc.md.getD k 0) (Sc.uC a k).2)):=by
    have:Sc.uC a (k+1)=((Sc.uC a k).1.set k (a.getD k 0 - Sc.md.getD k 0 - (Sc.uC a k).2),Sc.less (a.getD k 0) (Sc.md.getD k 0) (Sc.uC a k).2):=rfl;exact this
   have hA:=qR (a.getD k 0) (Sc.md.getD k 0) (Sc.uC a k).2 (Sc.A7 a k);have hix: ∀wx:World,(Instr.index 70 (.agg (Ws Sc.md)) (.int .i64 k)).run Tryz.prog wx= .ok (.int .u64 (U (Sc.md.getD k 0))) wx:=nS _ _ _ _ k hlt
   generalize (Sc.uC a k).1=L at hb3 hl3 HS c3;generalize (Sc.uC a k).2=o at HS hA⊢;generalize a.getD k 0=x at c1 HS hA;generalize Sc.md.getD k 0=y at HS hA hix;generalize x - y - o=d at HS hA;generalize Sc.less x y o=m at HS hA;generalize L.getD k 0=z at c3;have i1:(k:Int)<4:=by omega
   go_wp2;go_roundw
   case rel=>
    rw[hb3.set,aC];refine⟨k+1,by omega,by go_num,?_,?_,hb1.other (by omega) _,hb2.other (by omega) _,below_setRow BI (by omega) _⟩
    ·rw[show Sc.uC a (k+1)=_ from HS.out]
    ·rw[show Sc.uC a (k+1)=_ from HS.out];exact hb3.row _
   case measure=>simp[intOf];omega
  ·have hk8:k=4:=by omega
   subst hk8;rw[show ((4:Nat):Int)=4 from rfl];have a0:=mP (Sc.uC a 4).2;generalize (Sc.uC a 4).1=L at hb3 hl3 HE;generalize -(Sc.uC a 4).2=m at HE a0;generalize (Sc.uC a 4).2=o at a0⊢;go_wp2_with fail;go_loopw [28] (fun i wr=> ∃k:Nat,k≤4∧i= .int .i64 k∧Blk wr w.heap.size (Ws (Sc.ve a L m k)) 71∧Blk wr (w.heap.size+1+1) (Ws L) 71∧Blk wr (w.heap.size+1) (Ws [0,0,0,0]) 71∧Below w.heap.size w wr) (fun i _=>4 - (intOf i).toNat)
   case atStart=>exact⟨0,by omega,rfl,hb1,hb3,hb2,BI⟩
   case round=>
    clear hb1 hb2 hb3 BI;obtain⟨k,hk,rfl,hb1,hb3,hb2,BI⟩:=hrel;have hl1:(Sc.ve a L m k).length=4:=by rw[Sc.Ad,ha]
    by_cases hlt:k<4
    ·have c1:=hb1.cell k;rw[au _ _ (by omega)]at c1;have c3:=hb3.cell k;rw[au _ _ (by omega)]at c3;have f1:=hb1.frozen k;have HS:Hid (Sc.ve a L m (k+1)=(Sc.ve a L m k).set k (((Sc.ve a L m k).getD k 0&&&m)|||(L.getD k 0&&& ~~~m))):=by
      have:Sc.ve a L m (k+1)=(Sc.ve a L m k).set k (((Sc.ve a L m k).getD k 0&&&m)|||(L.getD k 0&&& ~~~m)):=rfl;exact this
     generalize Sc.ve a L m k=A at hb1 HS hl1 c1;generalize A.getD k 0=x at c1 HS;generalize L.getD k 0=y at c3 HS;have i1:(k:Int)<4:=by omega
     have a1:=bv x m;have a2:=pi y m;generalize x&&&m=u at a1 HS;generalize y&&& ~~~m=v at a2 HS;have a3:=bB u v;generalize u|||v=z at a3 HS
     go_wp2_with fail;go_region
     go_wp2;go_roundw
     case rel=>
      rw[hb1.set,aC];exact⟨k+1,by omega,by go_num,by rw[show Sc.ve a L m (k+1)=_ from HS.out];exact hb1.row _,hb3.other (by omega) _,hb2.other (by omega) _,(below_setRow BI (by omega) _).drew⟩
     case measure=>simp[intOf];omega
    ·have hk8:k=4:=by omega
     subst hk8;generalize Sc.ve a L m 4=S at hb1 hl1 HE;have g0:=hb1;unfold Blk at g0;have sS:=Wz hl1;have hst:=ao (l:=S) hb2 (by rw[hl1];rfl);go_wp2_with (first
      |(refine ld t71 rfl rfl w.heap.size rfl g0 sS ?_))
     refine bodyPost_ret (v:= .agg (Ws S)) ?_ rfl ⟨by rw[show R=_ from HE.out],below_setRow BI (by omega) _⟩;exact rr t71 rfl rfl (hb2.row _) sS
theorem ft(a b:List (BitVec 64))(w:World)(ha:a.length=4)(hb:b.length=4):
  Rw 121 #[.agg (Ws a),.agg (Ws b)] w (.agg (Ws (Sc.plus a b))):=by
 have sa:=Wz ha;have sb:=Wz hb;have HE:Hid (Sc.plus a b=Sc.vO (Sc.uo a b 4).1):=by
  have:Sc.plus a b=Sc.vO (Sc.uo a b 4).1:=rfl;exact this
 generalize Sc.plus a b=R at HE⊢;have hb1:=Blk.alloc (Blk.alloc (Blk.new w (Ws a) 71) (.cells (Ws b) 71)) (.cells (Ws [0,0,0,0]) 71);have hb2:=Blk.alloc (Blk.new (w.alloc (.cells (Ws a) 71)) (Ws b) 71) (.cells (Ws [0,0,0,0]) 71);have hb3:=Blk.new ((w.alloc (.cells (Ws a) 71)).alloc (.cells (Ws b) 71)) (Ws [0,0,0,0]) 71;have BI:Below w.heap.size w (((w.alloc (.cells (Ws a) 71)).alloc (.cells (Ws b) 71)).alloc (.cells (Ws [0,0,0,0]) 71)):=
  ((bR.alloc nR _).alloc (by simp) _).alloc (by simp;omega) _
 rw[show (w.alloc (.cells (Ws a) 71)).heap.size=w.heap.size+1 by simp]at hb2;rw[show ((w.alloc (.cells (Ws a) 71)).alloc (.cells (Ws b) 71)).heap.size=w.heap.size+1+1 by simp]at hb3;go_enter Tryz.func121,Tryz.ntmps121;go_wp2_with fail;rw[SZ4];generalize ((w.alloc (.cells (Ws a) 71)).alloc (.cells (Ws b) 71)).alloc (.cells (Ws [0,0,0,0]) 71)=w1 at hb1 hb2 hb3 BI⊢;go_loopw [5,7] (fun o i wr=> ∃k:Nat,k≤4∧i= .int .i64 k∧o= .int .u64 (U (Sc.uo a b k).2)∧Blk wr w.heap.size (Ws (Sc.uo a b k).1) 71∧Blk wr (w.heap.size+1) (Ws b) 71∧Blk wr (w.heap.size+1+1) (Ws [0,0,0,0]) 71∧Below w.heap.size w wr) (fun _ i _=>4 - (intOf i).toNat)
 case atStart=>exact⟨0,by omega,rfl,rfl,hb1,hb2,hb3,BI⟩
 case round=>
  clear hb1 hb2 hb3 BI w1;obtain⟨k,hk,rfl,rfl,hb1,hb2,hb3,BI⟩:=hrel;have hl1:(Sc.uo a b k).1.length=4:=by rw[Sc.An,ha]
  by_cases hlt:k<4
  ·have c1:=hb1.cell k;rw[au _ _ (by omega)]at c1;have c2:=hb2.cell k;rw[au _ _ (by omega)]at c2;have f1:=hb1.frozen k;have HS:Hid (Sc.uo a b (k+1)=((Sc.uo a b k).1.set k ((Sc.uo a b k).1.getD k 0+b.getD k 0+(Sc.uo a b k).2),BitVec.ofNat 64 ((((Sc.uo a b k).1.getD k 0).toNat+(b.getD k 0).toNat+(Sc.uo a b k).2.toNat)/18446744073709551616))):=by
    have:Sc.uo a b (k+1)=((Sc.uo a b k).1.set k ((Sc.uo a b k).1.getD k 0+b.getD k 0+(Sc.uo a b k).2),BitVec.ofNat 64 ((((Sc.uo a b k).1.getD k 0).toNat+(b.getD k 0).toNat+(Sc.uo a b k).2.toNat)/18446744073709551616)):=rfl;exact this
   have hA:=fT ((Sc.uo a b k).1.getD k 0) (b.getD k 0) (Sc.uo a b k).2 (Sc.A8 a b k);generalize (Sc.uo a b k).1=L at hb1 hl1 HS c1 hA;generalize (Sc.uo a b k).2=o at HS hA⊢;generalize L.getD k 0=x at c1 HS hA;generalize b.getD k 0=y at c2 HS hA;generalize x+y+o=d at HS hA;generalize BitVec.ofNat 64 ((x.toNat+y.toNat+o.toNat)/18446744073709551616)=m at HS hA;have i1:(k:Int)<4:=by omega
   go_wp2_with fail;go_region
   go_wp2;go_roundw
   case rel=>
    rw[hb1.set,aC];refine⟨k+1,by omega,by go_num,?_,?_,hb2.other (by omega) _,hb3.other (by omega) _,(below_setRow BI (by omega) _).drew⟩
    ·rw[show Sc.uo a b (k+1)=_ from HS.out]
    ·rw[show Sc.uo a b (k+1)=_ from HS.out];exact hb1.row _
   case measure=>simp[intOf];omega
  ·have hk8:k=4:=by omega
   subst hk8;have H1:Hid (Rv 183 #[.agg (Ws (Sc.uo a b 4).1)] (.agg (Ws (Sc.vO (Sc.uo a b 4).1)))):=fun wx=>nQ _ wx hl1
   have hlR:(Sc.vO (Sc.uo a b 4).1).length=4:=by rw[Sc.zR,hl1]
   generalize Sc.vO (Sc.uo a b 4).1=T at HE H1 hlR;generalize (Sc.uo a b 4).1=S at hb1 hl1 H1;have g0:=hb1;unfold Blk at g0;have sS:=Wz hl1;have sT:=Wz hlR;go_wp2_with (first
    |(refine ld t71 rfl rfl w.heap.size rfl g0 sS ?_))
   refine gv H1 fun w2 k2=> ?_
   replace hb3:=hb3.keep k2;replace BI:=BI.trans (k2.mono BI.size);have hst:=ao (l:=T) hb3 (by rw[hlR];rfl);go_wp2;refine bodyPost_ret (v:= .agg (Ws T)) ?_ rfl ⟨by rw[show R=_ from HE.out],below_setRow BI (by omega) _⟩;exact rr t71 rfl rfl (hb3.row _) sT
theorem qP(a b:List (BitVec 64))(w:World)(ha:a.length=4)(hb:b.length=4):
  Rw 123 #[.agg (Ws a),.agg (Ws b)] w (.agg (Ws (Sc.times a b))):=by
 have sa:=Wz ha;have sb:=Wz hb;have HE:Hid (Sc.times a b=Sc.timesTo a b 253):=by
  have:Sc.times a b=Sc.timesTo a b 253:=rfl;exact this
 generalize Sc.times a b=R at HE⊢;have h1:=(WS.start (w:=w)).new (Ws a) 71;have h2:=h1.new (Ws b) 71;rw[show (w.alloc (.cells (Ws a) 71)).heap.size=w.heap.size+1 by simp]at h2;have h3:=h2.new (Ws [0,0,0,0]) 71;rw[show ((w.alloc (.cells (Ws a) 71)).alloc (.cells (Ws b) 71)).heap.size=w.heap.size+1+1 by simp]at h3;have hW:=h3.new (Ws [0,0,0,0]) 71;rw[show (((w.alloc (.cells (Ws a) 71)).alloc (.cells (Ws b) 71)).alloc (.cells (Ws [0,0,0,0]) 71)).heap.size=w.heap.size+1+1+1 by simp]at hW;clear h1 h2 h3;go_enter Tryz.func123,Tryz.ntmps123;go_wp2_with fail;rw[SZ4];generalize (((w.alloc (.cells (Ws a) 71)).alloc (.cells (Ws b) 71)).alloc (.cells (Ws [0,0,0,0]) 71)).alloc (.cells (Ws [0,0,0,0]) 71)=w1 at hW⊢;go_loopw [6] (fun c wr=> ∃n:Nat,n≤253∧c= .int .i64 (252 - (n:Int))∧WS w w.heap.size [(w.heap.size+1+1+1,Ws (Sc.timesTo a b n),71),(w.heap.size+1+1,Ws [0,0,0,0],71),(w.heap.size+1,Ws b,71),(w.heap.size,Ws a,71)] wr) (fun c _=>((intOf c)+1).toNat)
 case atStart=>exact⟨0,by omega,rfl,hW⟩
 case round=>
  clear hW;obtain⟨n,hn,rfl,hW⟩:=hrel;have hlS:=Sc.timesTo_length a b n;by_cases hlt:n<253
  ·have HS:Hid (Sc.timesTo a b (n+1)=Sc.plus (Sc.plus (Sc.timesTo a b n) (Sc.timesTo a b n)) (Sc.wE a (Sc.bit b (252 - n)))):=by
    have:Sc.timesTo a b (n+1)=Sc.plus (Sc.plus (Sc.timesTo a b n) (Sc.timesTo a b n)) (Sc.wE a (Sc.bit b (252 - n))):=by rw[Sc.timesTo]
    exact this
   obtain⟨at0,hat⟩: ∃at0:Nat,at0=252 - n:=⟨_,rfl⟩
   rw[←hat]at HS;have hc:(252 - (n:Int))=(at0:Int):=by omega
   rw[hc];have hat2:at0≤252:=by omega
   clear hat;replace hc:Hid (252 - (n:Int)=(at0:Int)):=hc;have i3:(0:Int)≤(at0:Int):=by omega
   generalize hS:Sc.timesTo a b n=S at hW hlS HS;replace hS:Hid (Sc.timesTo a b n=S):=hS;have H1:Hid (Rv 121 #[.agg (Ws S),.agg (Ws S)] (.agg (Ws (Sc.plus S S)))):=fun wx=>ft S S wx hlS hlS
   have lP:(Sc.plus S S).length=4:=by rw[Sc.plus_length,hlS]
   have H2:Hid (Rv 176 #[.agg (Ws b),.int .i64 (at0:Int)] (.int .u64 (U (Sc.bit b at0)))):=fun wx=>pO b at0 wx hb (by omega)
   generalize Sc.plus S S=P at H1 lP HS;generalize Sc.bit b at0=t at H2 HS;have H3:Hid (Rv 184 #[.agg (Ws a),.int .u64 (U t)] (.agg (Ws (Sc.wE a t)))):=fun wx=>pg a t wx ha
   have lO:(Sc.wE a t).length=4:=by rw[Sc.Ae,ha]
   generalize Sc.wE a t=O at H3 lO HS;have H4:Hid (Rv 121 #[.agg (Ws P),.agg (Ws O)] (.agg (Ws (Sc.plus P O)))):=fun wx=>ft P O wx lP lO
   have lT:(Sc.plus P O).length=4:=by rw[Sc.plus_length,lP]
   generalize Sc.plus P O=T at H4 lT HS;have sS:=Wz hlS;have sT:=Wz lT;clear lP lO;go_wp2_with fail;refine ai (S:=WS w (w.heap.size) [(w.heap.size+1+1+1,Ws S,71),(w.heap.size+1+1,Ws [0,0,0,0],71),(w.heap.size+1,Ws b,71),(w.heap.size,Ws a,71)]) (ls:= [9]) (by kernel_rfl) ?_;have hW0:WS w (w.heap.size) [(w.heap.size+1+1+1,Ws S,71),(w.heap.size+1+1,Ws [0,0,0,0],71),(w.heap.size+1,Ws b,71),(w.heap.size,Ws a,71)] wr.drew:=hW.drew;clear hW;generalize World.drew wr=rd at hW0⊢;refine af 0 11 t71 (fun _ h=>h.get 0 rfl) sS hW0 ?_;refine af 1 12 t71 (fun _ h=>h.get 0 rfl) sS hW0 ?_;refine af 3 14 t71 (fun _ h=>h.get 3 rfl) sa hW0 ?_;simp only[qQ];refine af 4 15 t71 (fun _ h=>h.get 2 rfl) sb hW0 ?_;refine ac 5 16 hW0 ?_;try simp only[qQ]
   refine aj 2 fun K hK=> ?_
   go_simp;go_wp2_with (go_at_call 121;refine gv H1 fun rx0 k0=> ?_);have hW1:=hW0.keep k0;refine hK.out _ _ hW1 ?_;try simp only[qQ]
   clear hK K k0 hW0;refine aj 6 fun K hK=> ?_
   go_simp;go_wp2_with (go_at_call 176;refine gv H2 fun rx1 k0=> ?_);have hW2:=hW1.keep k0;refine hK.out _ _ hW2 ?_;try simp only[qQ]
   clear hK K k0 hW1;refine aj 7 fun K hK=> ?_
   go_simp;go_wp2_with (go_at_call 184;refine gv H3 fun rx2 k0=> ?_);have hW3:=hW2.keep k0;refine hK.out _ _ hW3 ?_;try simp only[qQ]
   clear hK K k0 hW2;refine aj 8 fun K hK=> ?_
   go_simp;go_wp2_with (go_at_call 121;refine gv H4 fun rx3 k0=> ?_);have hW4:=hW3.keep k0;refine hK.out _ _ hW4 ?_;try simp only[qQ]
   clear hK K k0 hW3;refine am 9 fun K hK=> ?_
   have hst:=ao (l:=T) (hW4.get 0 rfl) (by rw[sS,lT]);go_simp;refine hK.out _ _ ?_;clear hK K hst;replace hW4:=hW4.upd (w.heap.size+1+1+1) (Ws T) 71 [(w.heap.size+1+1+1,Ws T,71),(w.heap.size+1+1,Ws [0,0,0,0],71),(w.heap.size+1,Ws b,71),(w.heap.size,Ws a,71)] ⟨_,mG (i:=0) rfl⟩ (by intro x hx;simp only[List.mem_cons,List.not_mem_nil,or_false]at hx;rcases hx with rfl|rfl|rfl|rfl<;>first|exact Or.inl rfl|exact Or.inr ⟨by simp,by dsimp only;omega⟩);generalize rx3.setRow (w.heap.size+1+1+1) (Ws T)=ry0 at hW4⊢;refine ak ?_;go_wp2;go_roundw
   case rel=>
    refine⟨n+1,by omega,by have:=hc.out;go_num,?_⟩;rw[show Sc.timesTo a b (n+1)=_ from HS.out];exact hW4
   case measure=>have:=hc.out;simp[intOf];try omega
  ·have hk8:n=253:=by omega
   subst hk8;generalize Sc.timesTo a b 253=S at hW hlS HE;have g0:=hW.get 0 rfl;have g1:=hW.get 1 rfl;dsimp only at g0 g1;have hst:=ao (l:=S) g1 (by rw[hlS];rfl);have sS:=Wz hlS;have hg1:=g1;unfold Blk at g0;go_wp2_with (first
    |(refine ld t71 rfl rfl (w.heap.size+1+1+1) rfl g0 sS ?_))
   refine bodyPost_ret (v:= .agg (Ws S)) ?_ rfl ⟨by rw[show R=_ from HE.out],below_setRow hW.below (by omega) _⟩;exact rr t71 rfl rfl (hg1.row _) sS
theorem ph(s:List UInt8)(k:Nat):bits BinOp.and IntKind.u64 (((s.getD (k/8) 0).toNat:Int)/2^(k%8)) 1=U (Sc.zt s k):=by
 generalize hx:s.getD (k/8) 0=x;have h1:x.toNat/2^(k%8)<256:=Nat.lt_of_le_of_lt (Nat.div_le_self _ _) x.toNat_lt;have e1:(x.toNat:Int)/2^(k%8)=((x.toNat/2^(k%8):Nat):Int):=by simp
 unfold Sc.zt;rw[hx,e1];generalize x.toNat/2^(k%8)=n at h1;have e3:(n:Int)=U (BitVec.ofNat 64 n):=dz n (by omega);have e4:(1:Int)=U 1:=rfl;rw[e3,e4,bv];unfold U;congr 1
 rw[BitVec.toNat_and,BitVec.toNat_ofNat,BitVec.toNat_ofNat,Nat.mod_eq_of_lt (by omega),Nat.mod_eq_of_lt (by omega)];show n&&&1=n%2
 exact Nat.and_one_is_mod n
theorem mH(s:ByteArray)(w:World)(hs:s.size≤1000000):
  Rw 114 #[.string s] w (.agg (Ws (Sc.of s.data.toList))):=by
 have hsl:s.data.toList.length=s.size:=by simp
 have HE:Hid (Sc.of s.data.toList=Sc.xL s.data.toList (8*s.size)):=by
  have:Sc.of s.data.toList=Sc.xL s.data.toList (8*s.size):=by rw[Sc.of,hsl]
  exact this
 generalize Sc.of s.data.toList=R at HE⊢;have hb1:Blk ((w.alloc (.cells (Ws [0,0,0,0]) 71)).alloc (.cells (Ws [0,0,0,0]) 71)) w.heap.size (Ws [0,0,0,0]) 71:=heap_alloc2_old w _ _;have hb2:Blk ((w.alloc (.cells (Ws [0,0,0,0]) 71)).alloc (.cells (Ws [0,0,0,0]) 71)) (w.heap.size+1) (Ws [0,0,0,0]) 71:=heap_alloc2_new w _ _;have BI:Below w.heap.size w ((w.alloc (.cells (Ws [0,0,0,0]) 71)).alloc (.cells (Ws [0,0,0,0]) 71)):=(bR.alloc nR _).alloc (by simp) _;have hw8:IntKind.i64.wrap (8*(s.size:Int))=8*(s.size:Int):=by rw[IntKind.wrap_i64];omega
 have hw9:IntKind.i64.wrap (8*(s.size:Int) - 1)=8*(s.size:Int) - 1:=by rw[IntKind.wrap_i64];omega
 go_enter Tryz.func114,Tryz.ntmps114;go_wp2_with fail;rw[SZ4];generalize (w.alloc (.cells (Ws [0,0,0,0]) 71)).alloc (.cells (Ws [0,0,0,0]) 71)=w1 at hb1 hb2 BI⊢;go_loopw [4] (fun c wr=> ∃n:Nat,n≤8*s.size∧c= .int .i64 (8*(s.size:Int) - 1 - (n:Int))∧Blk wr (w.heap.size+1) (Ws (Sc.xL s.data.toList n)) 71∧Blk wr w.heap.size (Ws [0,0,0,0]) 71∧Below w.heap.size w wr) (fun c _=>((intOf c)+1).toNat)
 case atStart=>exact⟨0,by omega,by simp,hb2,hb1,BI⟩
 case round=>
  clear hb1 hb2 BI w1;obtain⟨n,hn,rfl,hb2,hb1,BI⟩:=hrel;have hlS:=Sc.AK s.data.toList n;by_cases hlt:n<8*s.size
  ·have HS:Hid (Sc.xL s.data.toList (n+1)=Sc.plus (Sc.plus (Sc.xL s.data.toList n) (Sc.xL s.data.toList n)) [Sc.zt s.data.toList (8*s.size - 1 - n),0,0,0]):=by
    have:Sc.xL s.data.toList (n+1)=Sc.plus (Sc.plus (Sc.xL s.data.toList n) (Sc.xL s.data.toList n)) [Sc.zt s.data.toList (8*s.size - 1 - n),0,0,0]:=by rw[Sc.xL,hsl]
    exact this
   obtain⟨at0,hat⟩: ∃at0:Nat,at0=8*s.size - 1 - n:=⟨_,rfl⟩
   rw[←hat]at HS;have hc:(8*(s.size:Int) - 1 - (n:Int))=(at0:Int):=by omega
   rw[hc];have hat2:at0<8*s.size:=by omega
   clear hat;replace hc:Hid (8*(s.size:Int) - 1 - (n:Int)=(at0:Int)):=hc;have i3:(0:Int)≤(at0:Int):=by omega
   have hix:=eM s (at0/8) (by omega);have hix2: ∀wx:World,(Instr.index 9 (.string s) (.int .i64 ((at0:Int)/8))).run Tryz.prog wx= .ok (.int .u8 ((s.data.toList.getD (at0/8) 0).toNat:Int)) wx:=by
    intro wx;have:((at0:Int)/8)=((at0/8:Nat):Int):=by omega
    rw[this];exact hix wx
   have BX:=ph s.data.toList at0;generalize s.data.toList.getD (at0/8) 0=x at hix hix2 BX;generalize Sc.zt s.data.toList at0=bit at BX HS;have i1:IntKind.i64.wrap ((at0:Int)/8)=((at0/8:Nat):Int):=by rw[IntKind.wrap_i64];omega
   have i2:(at0:Int).tmod 8=((at0%8:Nat):Int):=by rw[Int.tmod_eq_emod_of_nonneg (by omega)];omega
   have i4:((at0%8:Nat):Int)<8:=by omega
   have hbit2:bits BinOp.and IntKind.u64 (IntKind.u64.wrap ((x.toNat:Int)/2^(at0%8))) 1=U bit:=by
    have h1:x.toNat/2^(at0%8)<256:=Nat.lt_of_le_of_lt (Nat.div_le_self _ _) x.toNat_lt;have e1:(x.toNat:Int)/2^(at0%8)=((x.toNat/2^(at0%8):Nat):Int):=by simp
    have e2:IntKind.u64.wrap ((x.toNat/2^(at0%8):Nat):Int)=((x.toNat/2^(at0%8):Nat):Int):=by
     generalize x.toNat/2^(at0%8)=n at h1;rw[IntKind.wrap_u64];omega
    rw[←BX,e1,e2]
   generalize hS:Sc.xL s.data.toList n=S at hb2 hlS HS;clear hS;have H1:Hid (Rv 121 #[.agg (Ws S),.agg (Ws S)] (.agg (Ws (Sc.plus S S)))):=fun wx=>ft S S wx hlS hlS
   have lP:(Sc.plus S S).length=4:=by rw[Sc.plus_length,hlS]
   generalize Sc.plus S S=P at H1 lP HS;have H2:Hid (Rv 121 #[.agg (Ws P),.agg #[.int .u64 (U bit),.int .u64 0,.int .u64 0,.int .u64 0]] (.agg (Ws (Sc.plus P [bit,0,0,0])))):=fun wx=>ft P [bit,0,0,0] wx lP rfl
   have lT:(Sc.plus P [bit,0,0,0]).length=4:=by rw[Sc.plus_length,lP]
   generalize Sc.plus P [bit,0,0,0]=T at H2 lT HS;have sS:=Wz hlS;have sT:=Wz lT;clear lP;have g2:=hb2;unfold Blk at g2;go_wp2_with (first
    |(refine ld t71 rfl rfl (w.heap.size+1) rfl g2 sS ?_))
   refine gv H1 fun x1 k1=> ?_
   replace hb2:=hb2.keep k1;replace hb1:=hb1.keep k1;replace BI:=BI.trans (k1.mono BI.size);clear k1 g2;go_wp2_with fail;refine gv H2 fun x2 k2=> ?_
   replace hb2:=hb2.keep k2;replace hb1:=hb1.keep k2;replace BI:=BI.trans (k2.mono BI.size);clear k2;have hst:=ao (l:=T) hb2 (by rw[sS,lT]);go_wp2;go_roundw
   case rel=>
    refine⟨n+1,by omega,by have:=hc.out;go_num,?_,hb1.other (by omega) _,below_setRow BI (by omega) _⟩;rw[show Sc.xL s.data.toList (n+1)=_ from HS.out];exact hb2.row _
   case measure=>have:=hc.out;simp[intOf];try omega
  ·have hk8:n=8*s.size:=by omega
   have hc:(8*(s.size:Int) - 1 - (n:Int))= -1:=by omega
   rw[hc];rw[←hk8]at HE;generalize Sc.xL s.data.toList n=S at hb2 hlS HE;have g0:=hb2;unfold Blk at g0;have sS:=Wz hlS;have hst:=ao (l:=S) hb1 (by rw[hlS];rfl);go_wp2_with (first
    |(refine ld t71 rfl rfl (w.heap.size+1) rfl g0 sS ?_))
   refine bodyPost_ret (v:= .agg (Ws S)) ?_ rfl ⟨by rw[show R=_ from HE.out],below_setRow BI (by omega) _⟩;exact rr t71 rfl rfl (hb1.row _) sS
theorem lu(a:List (BitVec 64))(w:World)(ha:a.length=4):
  Rw 124 #[.agg (Ws a)] w (.string ⟨(Ff.tY a 32).toArray⟩):=by
 have sa:=Wz ha;have hz:=mV;generalize hR:Ff.tY a 32=R;replace hR:Hid (Ff.tY a 32=R):=hR;have hW4:Blk ((w.alloc (.cells (Ws a) 71)).alloc (.cells (Bs (ag 32)) 130)) w.heap.size (Ws a) 71:=heap_alloc2_old w _ _;have hO4:Blk ((w.alloc (.cells (Ws a) 71)).alloc (.cells (Bs (ag 32)) 130)) (w.heap.size+1) (Bs (ag 32)) 130:=heap_alloc2_new w _ _;have Cj:Below w.heap.size w ((w.alloc (.cells (Ws a) 71)).alloc (.cells (Bs (ag 32)) 130)):=(bR.alloc nR _).alloc (by simp) _;go_enter Tryz.func124,Tryz.ntmps124;go_wp2_with fail;generalize (w.alloc (.cells (Ws a) 71)).alloc (.cells (Bs (ag 32)) 130)=w4 at hW4 hO4 Cj⊢;clear hz;go_loopw [5] (fun c wr=> ∃k:Nat,k≤32∧c= .int .i64 (k:Int)∧Blk wr w.heap.size (Ws a) 71∧Blk wr (w.heap.size+1) (Bs (Ff.tY a k)) 130∧Below w.heap.size w wr) (fun c _=>32 - (intOf c).toNat)
 case atStart=>exact⟨0,by omega,rfl,hW4,hO4,Cj⟩
 case round=>
  clear hW4 hO4 Cj;obtain⟨k,hk,rfl,hW4,hO4,Cj⟩:=hrel;have hl:=Ff.vq a k;by_cases hlt:k<32
  ·have HB:Hid (Ff.tY a (k+1)=(Ff.tY a k).set k ((a.getD (k/8) 0>>>(k%8*8)).toNat.toUInt8)):=by
    have:Ff.tY a (k+1)=(Ff.tY a k).set k ((a.getD (k/8) 0>>>(k%8*8)).toNat.toUInt8):=by rw[Ff.tY];rfl
    exact this
   have cw:=hW4.cell (k/8);rw[au _ _ (show k/8<a.length by omega)]at cw;have co:=hO4.cell k;rw[bU _ _ (by omega)]at co;have fo:=hO4.frozen k;have i1:IntKind.i64.wrap ((k:Int)/8)=((k/8:Nat):Int):=by rw[IntKind.wrap_i64];omega
   have i2:IntKind.i64.wrap ((k:Int).tmod 8*8)=((k%8*8:Nat):Int):=by rw[IntKind.wrap_i64,Int.tmod_eq_emod_of_nonneg (by omega)];omega
   have q2:((k/8:Nat):Int)<4:=by omega
   have s2:((k%8*8:Nat):Int)<64:=by omega
   generalize hq:k/8=q at*;generalize hsf:k%8*8=sft at*;replace hq:Hid (k/8=q):=hq;replace hsf:Hid (k%8*8=sft):=hsf;generalize a.getD q 0=y at cw HB;generalize (Ff.tY a k).getD k 0=z at co;have sh:U y/2^sft=U (y>>>sft):=cP y sft;have lb:=gu (y>>>sft);have lb2:IntKind.u8.wrap (U y/2^sft)=((y>>>sft).toNat.toUInt8.toNat:Int):=by rw[sh,lb]
   generalize (y>>>sft).toNat.toUInt8=v at HB lb lb2;clear lb sh;have hlt':(k:Int)<32:=by omega
   go_wp2;go_roundw
   case rel=>
    have e:U y/2^(k%8*8)%256=(v.toNat:Int):=by rw[hsf.out,←IntKind.wrap_u8,lb2]
    rw[e,hO4.set,cu];refine⟨k+1,by omega,by go_num,hW4.other (by omega) _,?_,below_setRow Cj (by omega) _⟩;rw[HB.out];exact hO4.row _
   case measure=>simp[intOf];omega
  ·have hk32:k=32:=by omega
   subst hk32;have hso:=aQ (cap:=32) hO4 32 hl.symm;generalize Ff.tY a 32=T at hso hR;go_wp2;go_ret;exact⟨by rw[←show T=R from hR.out];rfl,Cj⟩
end Go.Proofs.YtclpbaokadfhhaaGreatDoor
