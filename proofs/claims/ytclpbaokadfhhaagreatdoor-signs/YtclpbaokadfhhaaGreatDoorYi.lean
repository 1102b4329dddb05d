import Derived.Test.YtclpbaokadfhhaaGreatDoorYh
import Derived.Test.YtclpbaokadfhhaaGreatDoorXq
set_option maxRecDepth 100000
set_option maxHeartbeats 8000000
namespace Go.Proofs.YtclpbaokadfhhaaGreatDoor
open Go.RowKit
theorem n7(a:ByteArray)(er:Int)(frm last:Int)(sp:Option Addr)(n cp:Nat)(O:Nat→OpV)(w:World)(hf8:(frm==8)=true)(hf11:(frm==11)=false)
  (HI:Rv 21 #[.string kk] (.tuple #[.string a,.int .i64 er]))
  (hn:n≤140737488355328)
  (hs: ∀i,i<n→ ∃b off,sp=some ⟨b,off,none⟩∧b<w.heap.size∧w.rangeAt b (off+i*7) (O i).row)
  (I:Nat→World→World→Prop)
  (h0: ∀b1 w1,Below w.heap.size w w1→w.heap.size<b1→Blk w1 w.heap.size zeroV.cs 43→Blk w1 b1 #[.string (tx [57])] 9→I b1 w1 w1)
  (hBut: ∀b1 w1 wx,I b1 w1 wx→But w.heap.size w1 wx)
  (CM: ∀b1 w1 o,((∃j,j<14∧o=nth (tx [57]) a b1 j∧frm≤o.k∧o.k≤last)∨(∃i,i<n∧o=O i∧ ¬(last<o.k∧o.k<15)))→ ∀wx,I b1 w1 wx→
   Calls Tryz.prog 22 #[.pointer (some ⟨w.heap.size,0,none⟩),.agg o.cs] wx fun e w'=>e= .returned (.bool true)∧I b1 w1 w')
  (CL: ∀b1 w1 wx,I b1 w1 wx→Calls Tryz.prog 23 #[.pointer (some ⟨w.heap.size,0,none⟩)] wx fun e w'=>e= .returned (.bool true)∧I b1 w1 w'):
  Rw 9 #[.slice sp n cp,.int .i64 frm,.int .i64 last] w (.bool true):=by
 replace HI:Hid (Rv 21 #[.string kk] (.tuple #[.string a,.int .i64 er])):=HI;replace h0:Hid (∀b1 w1,Below w.heap.size w w1→w.heap.size<b1→Blk w1 w.heap.size zeroV.cs 43→Blk w1 b1 #[.string (tx [57])] 9→I b1 w1 w1):=h0;replace hBut:Hid (∀b1 w1 wx,I b1 w1 wx→But w.heap.size w1 wx):=hBut;replace hs:Hid (∀i,i<n→ ∃b off,sp=some ⟨b,off,none⟩∧b<w.heap.size∧w.rangeAt b (off+i*7) (O i).row):=hs;replace CM:Hid (∀b1 w1 o,((∃j,j<14∧o=nth (tx [57]) a b1 j∧frm≤o.k∧o.k≤last)∨(∃i,i<n∧o=O i∧ ¬(last<o.k∧o.k<15)))→ ∀wx,I b1 w1 wx→
   Calls Tryz.prog 22 #[.pointer (some ⟨w.heap.size,0,none⟩),.agg o.cs] wx fun e w'=>e= .returned (.bool true)∧I b1 w1 w'):=CM
 replace CL:Hid (∀b1 w1 wx,I b1 w1 wx→Calls Tryz.prog 23 #[.pointer (some ⟨w.heap.size,0,none⟩)] wx fun e w'=>e= .returned (.bool true)∧I b1 w1 w'):=CL;have hq:Blk (w.alloc (.cells zeroV.cs 43)) w.heap.size zeroV.cs 43:=Blk.new _ _ _;have bel:Below w.heap.size w (w.alloc (.cells zeroV.cs 43)):=bR.alloc nR _;go_enter Tryz.func9,Tryz.ntmps9;go_wp2_with (refine Rp.uf rfl 43 _ rfl [] rfl zeroV.cs (run_build _ _ _ _ (by kernel_rfl)) ?_);generalize w.alloc (.cells zeroV.cs 43)=w1 at hq bel⊢;refine gv HI fun w2 k2=> ?_
 replace hq:=hq.keep k2;replace bel:=bel.trans (k2.mono bel.size);clear k2 HI;go_wp2_with fail;refine ai (S:=(fun wx=>Below w.heap.size w wx∧Blk wx w.heap.size zeroV.cs 43)) (ls:= []) (by kernel_rfl) ?_;have hS:(fun wx=>Below w.heap.size w wx∧Blk wx w.heap.size zeroV.cs 43) w2.drew:=⟨bel.drew,hq.drew⟩;clear hq bel;generalize w2.drew=wd at hS⊢;refine aa 0 33 (v:= .agg (op6 1 0 (tx [97,98,99]) (tx []) (tx []) (tx [])).cs) hS ?_ ?_
 ·exact fun wx _=>Rp.ub 45 _ rfl [(0,.int .i64 1),(2,.string (tx [97,98,99]))] rfl _ (run_build wx _ _ _ (by kernel_rfl))
 refine aa 1 34 (v:= .agg (op6 2 0 (tx [107]) (tx [100]) (tx []) (tx [])).cs) hS ?_ ?_
 ·exact fun wx _=>Rp.ub 45 _ rfl [(0,.int .i64 2),(2,.string (tx [107])),(3,.string (tx [100]))] rfl _ (run_build wx _ _ _ (by kernel_rfl))
 refine aa 2 35 (v:= .agg (op6 3 70 (tx [115]) (tx []) (tx []) (tx [])).cs) hS ?_ ?_
 ·exact fun wx _=>Rp.ub 45 _ rfl [(0,.int .i64 3),(2,.string (tx [115])),(1,.int .i64 70)] rfl _ (run_build wx _ _ _ (by kernel_rfl))
 try simp only[qQ]
 refine aa 3 36 (v:= .string kk) hS ?_ ?_
 ·exact fun wx _=>rfl
 refine aa 4 37 (v:= .string kk) hS ?_ ?_
 ·exact fun wx _=>rfl
 refine aa 5 38 (v:= .string k12) hS ?_ ?_
 ·(intro wx BM;clear BM;go_simp;rw[if_pos (by decide)];kernel_rfl)
 try simp only[qQ]
 refine aa 6 39 (v:= .agg (op6 4 0 kk k12 (tx [116]) (tx [100,97,116,97])).cs) hS ?_ ?_
 ·exact fun wx _=>Rp.ub 45 _ rfl [(0,.int .i64 4),(2,.string (kk)),(3,.string (k12)),(4,.string (tx [116])),(5,.string (tx [100,97,116,97]))] rfl _ (run_build wx _ _ _ (by kernel_rfl))
 refine aa 7 40 (v:= .string kk) hS ?_ ?_
 ·exact fun wx _=>rfl
 refine aa 8 41 (v:= .string kk) hS ?_ ?_
 ·exact fun wx _=>rfl
 try simp only[qQ]
 refine aa 9 42 (v:= .string k12) hS ?_ ?_
 ·(intro wx BM;clear BM;go_simp;rw[if_pos (by decide)];kernel_rfl)
 refine aa 10 43 (v:= .agg (op6 5 0 kk k12 (tx [116]) (tx [])).cs) hS ?_ ?_
 ·exact fun wx _=>Rp.ub 45 _ rfl [(0,.int .i64 5),(2,.string (kk)),(3,.string (k12)),(4,.string (tx [116]))] rfl _ (run_build wx _ _ _ (by kernel_rfl))
 refine aa 11 44 (v:= .string kk) hS ?_ ?_
 ·exact fun wx _=>rfl
 try simp only[qQ]
 refine aa 12 45 (v:= .agg (op6 6 0 kk (tx []) (tx []) (tx [])).cs) hS ?_ ?_
 ·exact fun wx _=>Rp.ub 45 _ rfl [(0,.int .i64 6),(2,.string (kk))] rfl _ (run_build wx _ _ _ (by kernel_rfl))
 refine aa 13 46 (v:= .string kk) hS ?_ ?_
 ·exact fun wx _=>rfl
 refine aa 14 47 (v:= .string kk) hS ?_ ?_
 ·exact fun wx _=>rfl
 try simp only[qQ]
 refine aa 15 48 (v:= .agg (op6 7 0 kk kk (tx []) (tx [])).cs) hS ?_ ?_
 ·exact fun wx _=>Rp.ub 45 _ rfl [(0,.int .i64 7),(2,.string (kk)),(3,.string (kk))] rfl _ (run_build wx _ _ _ (by kernel_rfl))
 refine aa 16 49 (v:= .string kk) hS ?_ ?_
 ·exact fun wx _=>rfl
 refine aa 17 50 (v:= .agg (op6 8 0 kk (tx []) (tx []) (tx [])).cs) hS ?_ ?_
 ·exact fun wx _=>Rp.ub 45 _ rfl [(0,.int .i64 8),(2,.string (kk))] rfl _ (run_build wx _ _ _ (by kernel_rfl))
 try simp only[qQ]
 refine aa 18 51 (v:= .string kk) hS ?_ ?_
 ·exact fun wx _=>rfl
 refine aa 19 52 (v:= .agg (op6 9 0 kk (tx [100,97,116,97]) (tx []) (tx [])).cs) hS ?_ ?_
 ·exact fun wx _=>Rp.ub 45 _ rfl [(0,.int .i64 9),(2,.string (kk)),(3,.string (tx [100,97,116,97]))] rfl _ (run_build wx _ _ _ (by kernel_rfl))
 refine aa 20 53 (v:= .string a) hS ?_ ?_
 ·exact fun wx _=>rfl
 try simp only[qQ]
 refine aa 21 54 (v:= .agg (op6 10 0 a (tx [100,97,116,97]) (tx []) (tx [])).cs) hS ?_ ?_
 ·exact fun wx _=>Rp.ub 45 _ rfl [(0,.int .i64 10),(2,.string a),(3,.string (tx [100,97,116,97]))] rfl _ (run_build wx _ _ _ (by kernel_rfl))
 refine aa 22 55 (v:= .string kk) hS ?_ ?_
 ·exact fun wx _=>rfl
 refine aa 23 56 (v:= .string (tx [57])) hS ?_ ?_
 ·exact fun wx _=>rfl
 try simp only[qQ]
 refine aa 25 58 (v:= .string kk) hS ?_ ?_
 ·exact fun wx _=>rfl
 refine aa 26 59 (v:= .string kk) hS ?_ ?_
 ·exact fun wx _=>rfl
 refine aa 27 60 (v:= .string kk2) hS ?_ ?_
 ·(intro wx BM;clear BM;go_simp;rw[if_neg (by decide)];kernel_rfl)
 try simp only[qQ]
 refine aa 29 62 (v:= .string kk) hS ?_ ?_
 ·exact fun wx _=>rfl
 refine aa 30 63 (v:= .agg (op6 12 0 kk (tx []) (tx []) (tx [])).cs) hS ?_ ?_
 ·exact fun wx _=>Rp.ub 45 _ rfl [(0,.int .i64 12),(2,.string (kk))] rfl _ (run_build wx _ _ _ (by kernel_rfl))
 refine aa 31 64 (v:= .agg (op6 13 0 (tx [72,105]) (tx []) (tx []) (tx [])).cs) hS ?_ ?_
 ·exact fun wx _=>Rp.ub 45 _ rfl [(0,.int .i64 13),(2,.string (tx [72,105]))] rfl _ (run_build wx _ _ _ (by kernel_rfl))
 try simp only[qQ]
 refine aa 32 65 (v:= .agg (op6 14 0 (tx []) (tx []) (tx []) (tx [])).cs) hS ?_ ?_
 ·exact fun wx _=>Rp.ub 45 _ rfl [(0,.int .i64 14)] rfl _ (run_build wx _ _ _ (by kernel_rfl))
 try simp only[qQ]
 refine aj 24 fun K hK=> ?_
 rw[if_pos (by rfl)];refine rl _ rfl (tx [57]) rfl ?_;refine hK.out _ _ ⟨hS.1.alloc hS.1.size _,hS.2.alloc _⟩ ?_;clear hK K;have hP:Blk (wd.alloc (.cells #[.string (tx [57])] 9)) wd.heap.size #[.string (tx [57])] 9:=Blk.new _ _ _;have hS1:(fun wx=>Below w.heap.size w wx∧Blk wx w.heap.size zeroV.cs 43) (wd.alloc (.cells #[.string (tx [57])] 9)):=⟨hS.1.alloc hS.1.size _,hS.2.alloc _⟩;have hq1:w.heap.size<wd.heap.size:=hS.2.lt;clear hS;generalize wd.alloc (.cells #[.string (tx [57])] 9)=we at hP hS1⊢;generalize wd.heap.size=b1 at hP hq1⊢;simp only[Act.put,List.setIfInBounds_toArray];refine aa 28 61 (v:= .agg ({k:=11,n:=0,a:=kk,b:=kk2,c:=tx [100,97,116,97],d:=tx [],p:=some ⟨b1,0,none⟩,ln:=1,cp:=1}:OpV).cs) hS1 ?_ ?_
 ·exact fun wx _=>Rp.ub 45 _ rfl [(0,.int .i64 11),(2,.string (kk)),(6,.slice (some ⟨b1,0,none⟩) 1 1),(3,.string (kk2)),(4,.string (tx [100,97,116,97]))] rfl _ (run_build wx _ _ _ (by kernel_rfl))
 simp only[Act.put];refine aj 33 fun K hK=> ?_
 rw[if_pos (by rfl)];refine rm _ rfl _ _ rfl (r6 (tx [57]) a b1) ?_;have hF:Blk (we.alloc (.cells (dk (tx [57]) a b1) 45)) we.heap.size (dk (tx [57]) a b1) 45:=Blk.new _ _ _;have hS2:(fun wx=>Below w.heap.size w wx∧Blk wx w.heap.size zeroV.cs 43) (we.alloc (.cells (dk (tx [57]) a b1) 45)):=⟨hS1.1.alloc hS1.1.size _,hS1.2.alloc _⟩;replace hP:=hP.alloc (.cells (dk (tx [57]) a b1) 45);have hq2:w.heap.size<we.heap.size:=hS1.2.lt;refine hK.out _ _ hS2 ?_;clear hK K hS1;generalize we.alloc (.cells (dk (tx [57]) a b1) 45)=wf at hP hF hS2⊢;generalize we.heap.size=b2 at hF hq2⊢;simp only[Act.put];refine aa 34 11 (v:= .slice (some ⟨b2,0,none⟩) 14 14) hS2 ?_ ?_
 ·exact fun wx _=>rfl
 simp only[Act.put];refine ak ?_;have hI0:Hid (I b1 wf wf):=h0.out b1 wf hS2.1 hq1 hS2.2 hP;have bel:Hid (Below w.heap.size w wf):=hS2.1;have rF:Hid (∀j,j<14→wf.rangeAt b2 (j*7) (nth (tx [57]) a b1 j).row):=pZ hF;have hb2:Hid (b2<wf.heap.size∧b2≠w.heap.size):=⟨hF.lt,by omega⟩;clear hF hS2 hP hq1 hq2 h0;go_wp2_with fail;go_loopw [12,13] (fun ok i wr=> ∃j:Nat,ok= .bool true∧i= .int .i64 j∧j≤14∧Hid (I b1 wf wr)) (fun _ i _=>14 - (intOf i).toNat)
 case atStart=>exact⟨0,rfl,rfl,by omega,hI0⟩
 case round=>
  clear hI0;obtain⟨j,rfl,rfl,hj,hI⟩:=hrel;by_cases hlt:j<14
  ·have d1:decide ((j:Int)<14)=true:=decide_eq_true (by omega);have j0:(0:Int)≤(j:Int):=by omega
   have j1:(j:Int)<14:=by omega
   have hR:=(hBut.out _ _ _ hI.out).range (rF.out j hlt) hb2.out.1 hb2.out.2;generalize hoj:nth (tx [57]) a b1 j=o at hR;replace hoj:Hid (nth (tx [57]) a b1 j=o):=hoj;have cK:=OpV.rangeK hR;rw[←OpV.toL]at hR;have sO:=o.size;have hst:Hid (frm≤o.k→o.k≤last→ ∀wx,I b1 wf wx→Calls Tryz.prog 22 #[.pointer (some ⟨w.heap.size,0,none⟩),.agg o.cs] wx fun e w'=>e= .returned (.bool true)∧I b1 wf w'):=fun h1 h2 wx hI=>CM.out b1 wf o (Or.inl ⟨j,hlt,hoj.out.symm,h1,h2⟩) wx hI
   generalize o.cs=CS at hR sO hst;generalize o.k=K at cK hst;clear CM CL hs rF hoj;by_cases h1:frm≤K
   ·have d2:decide (frm≤K)=true:=decide_eq_true h1;replace h1:Hid (frm≤K):=h1;by_cases h2:K≤last
    ·have d3:decide (K≤last)=true:=decide_eq_true h2;replace h2:Hid (K≤last):=h2;go_wp2_with (refine Rp.ul rfl 45 _ rfl (b2) (j*7) rfl CS _ hR Tryz.underlying45 rfl (by rw[sO];exact Tryz.infoOp) ?_);refine(hst.out h1.out h2.out _ hI.out).mono ?_;rintro e w2 ⟨rfl,hI2⟩;replace hI2:Hid (I b1 wf w2):=hI2;clear hI hst cK hR;go_wp2_with fail;go_roundw
     case rel=>exact⟨j+1,rfl,by go_num,by omega,hI2⟩
     case measure=>simp[intOf];omega
    ·have d3:decide (K≤last)=false:=decide_eq_false h2;replace h2:Hid (¬K≤last):=h2;clear hst;go_wp2_with (refine Rp.ul rfl 45 _ rfl (b2) (j*7) rfl CS _ hR Tryz.underlying45 rfl (by rw[sO];exact Tryz.infoOp) ?_);go_roundw
     case rel=>exact⟨j+1,rfl,by go_num,by omega,hI⟩
     case measure=>simp[intOf];omega
   ·have d2:decide (frm≤K)=false:=decide_eq_false h1;replace h1:Hid (¬frm≤K):=h1;clear hst;go_wp2_with (refine Rp.ul rfl 45 _ rfl (b2) (j*7) rfl CS _ hR Tryz.underlying45 rfl (by rw[sO];exact Tryz.infoOp) ?_);go_roundw
    case rel=>exact⟨j+1,rfl,by go_num,by omega,hI⟩
    case measure=>simp[intOf];omega
  ·have hj14:(j:Int)=14:=by omega
   rw[hj14];clear hlt hj rF hb2 hj14;go_wp2_with fail;go_loopw [12,14] (fun ok i wy=> ∃j:Nat,ok= .bool true∧i= .int .i64 j∧j≤n∧Hid (I b1 wf wy)) (fun _ i _=>n - (intOf i).toNat)
   case atStart=>exact⟨0,rfl,rfl,by omega,hI⟩
   case round=>
    clear hI;obtain⟨j,rfl,rfl,hj,hI⟩:=hrel;by_cases hlt:j<n
    ·have d1:decide ((j:Int)<(n:Int))=true:=decide_eq_true (by omega);have j0:(0:Int)≤(j:Int):=by omega
     have j1:(j:Int)<(n:Int):=by omega
     obtain⟨b,off,hsp,hb,hr⟩:=hs.out j hlt;have hR:=(hBut.out _ _ _ hI.out).range (kG bel.out hr hb) (Nat.lt_of_lt_of_le hb bel.out.size) (Nat.ne_of_lt hb);clear hr;have cK:=OpV.rangeK hR;rw[←OpV.toL]at hR;have sO:=(O j).size;have hst:Hid (¬(last<(O j).k∧(O j).k<15)→ ∀wx,I b1 wf wx→Calls Tryz.prog 22 #[.pointer (some ⟨w.heap.size,0,none⟩),.agg (O j).cs] wx fun e w'=>e= .returned (.bool true)∧I b1 wf w'):=fun h1 wx hI=>CM.out b1 wf _ (Or.inr ⟨j,hlt,rfl,h1⟩) wx hI
     generalize (O j).cs=CS at hR sO hst;generalize (O j).k=K at cK hst;subst hsp;have hst2:Hid (∀wx,I b1 wf wx→Calls Tryz.prog 23 #[.pointer (some ⟨w.heap.size,0,none⟩)] wx fun e w'=>e= .returned (.bool true)∧I b1 wf w'):=fun wx h=>CL.out b1 wf wx h
     clear CM CL hs hb;by_cases h1:last<K
     ·have d2:decide (last<K)=true:=decide_eq_true h1;replace h1:Hid (last<K):=h1;by_cases h2:K<15
      ·have d3:decide (K<15)=true:=decide_eq_true h2;replace h2:Hid (K<15):=h2;clear hst hst2;go_wp2_with (refine Rp.ul rfl 45 _ rfl (b) (off+j*7) rfl CS _ hR Tryz.underlying45 rfl (by rw[sO];exact Tryz.infoOp) ?_);go_roundw
       case rel=>exact⟨j+1,rfl,by go_num,by omega,hI⟩
       case measure=>simp[intOf];omega
      ·have d3:decide (K<15)=false:=decide_eq_false h2;replace hst:=hst.out (fun h=>h2 h.2);replace h2:Hid (¬K<15):=h2;replace hst:Hid (∀wx,I b1 wf wx→Calls Tryz.prog 22 #[.pointer (some ⟨w.heap.size,0,none⟩),.agg CS] wx fun e w'=>e= .returned (.bool true)∧I b1 wf w'):=hst;go_wp2_with (refine Rp.ul rfl 45 _ rfl (b) (off+j*7) rfl CS _ hR Tryz.underlying45 rfl (by rw[sO];exact Tryz.infoOp) ?_);refine(hst.out _ hI.out).mono ?_;rintro e w2 ⟨rfl,hI2⟩;replace hI2:Hid (I b1 wf w2):=hI2;clear hI hst cK hR;go_wp2_with fail;refine(hst2.out _ hI2.out).mono ?_;rintro e w3 ⟨rfl,hI3⟩;replace hI3:Hid (I b1 wf w3):=hI3;clear hI2 hst2;go_wp2_with fail;go_roundw
       case rel=>exact⟨j+1,rfl,by go_num,by omega,hI3⟩
       case measure=>simp[intOf];omega
     ·have d2:decide (last<K)=false:=decide_eq_false h1;replace hst:=hst.out (fun h=>h1 h.1);replace h1:Hid (¬last<K):=h1;replace hst:Hid (∀wx,I b1 wf wx→Calls Tryz.prog 22 #[.pointer (some ⟨w.heap.size,0,none⟩),.agg CS] wx fun e w'=>e= .returned (.bool true)∧I b1 wf w'):=hst;go_wp2_with (refine Rp.ul rfl 45 _ rfl (b) (off+j*7) rfl CS _ hR Tryz.underlying45 rfl (by rw[sO];exact Tryz.infoOp) ?_);refine(hst.out _ hI.out).mono ?_;rintro e w2 ⟨rfl,hI2⟩;replace hI2:Hid (I b1 wf w2):=hI2;clear hI hst cK hR;go_wp2_with fail;refine(hst2.out _ hI2.out).mono ?_;rintro e w3 ⟨rfl,hI3⟩;replace hI3:Hid (I b1 wf w3):=hI3;clear hI2 hst2;go_wp2_with fail;go_roundw
      case rel=>exact⟨j+1,rfl,by go_num,by omega,hI3⟩
      case measure=>simp[intOf];omega
    ·obtain rfl:j=n:=by omega
     have d1:decide ((j:Int)<(j:Int))=false:=decide_eq_false (by omega);have Ct:=bel.out.trans (hBut.out _ _ _ hI.out).below;go_wp2;go_ret;exact⟨rfl,Ct⟩
theorem l8(s d:ByteArray):(Rs.uI s d).1.size≤1000000:=by
 unfold Rs.uI;split
 ·show(Rs.first s d++Rs.b32 (Rs.last s d)).size≤_
  rw[ByteArray.size_append,Rs.zh,Rs.xT];omega
 ·show(⟨#[]⟩:ByteArray).size≤_
  decide
theorem qZ(o:OpV)(ho:o.Ok)(q:Nat)(w1 wx:World)(hq:0<q)(hk:o.k=8∨o.k=9∨o.k=10)(hI:Inv q w1 wx):
  Calls Tryz.prog 44 #[.pointer (some ⟨q,0,none⟩),.agg o.cs] wx fun e w'=>e= .returned (.bool true)∧Inv q w1 w':=by
 obtain⟨⟨v,v1,v2,v3,v4⟩,hbut,hT⟩:=hI;have hqs:q<wx.heap.size:=v4.lt;have hS:(fun y=>Blk y q v.cs 43∧Blk y wx.heap.size o.cs 45∧But q w1 y∧Tab Sha.K y) (wx.alloc (.cells o.cs 45)):=⟨v4.alloc _,Blk.new _ _ _,hbut.alloc (by omega) _,hT.below (bR.alloc nR _)⟩;have HIa:Hid (∀wy:World,Tab Sha.K wy→Rw 13 #[.string o.a] wy (.tuple #[.string (Rp.idR o.a).1,.int .i64 (Rp.idR o.a).2])):=fun wy h=>mL o.a wy ho.a h
 have HIb:Hid (∀wy:World,Rw 21 #[.string o.a] wy (.tuple #[.string (Rp.idR o.a).1,.int .i64 (Rp.idR o.a).2])):=fun wy=>cB o.a wy
 generalize (Rp.idR o.a).1=X0 at HIa HIb;generalize (Rp.idR o.a).2=Y0 at HIa HIb;have HCa:Hid (∀wy:World,Tab Sha.K wy→Rw 99 #[.string o.a,.string o.b] wy (.tuple #[.string (Rs.uI o.a o.b).1,.int .i64 (Rs.uI o.a o.b).2])):=fun wy h=>ss o.a o.b wy ho.a ho.b h
 have HCb:Hid (∀wy:World,Rw 100 #[.string o.a,.string o.b] wy (.tuple #[.string (Rs.uI o.a o.b).1,.int .i64 (Rs.uI o.a o.b).2])):=fun wy=>nZ o.a o.b ho.b wy
 have sX:=l8 o.a o.b;generalize (Rs.uI o.a o.b).1=X at HCa HCb sX;generalize (Rs.uI o.a o.b).2=Y at HCa HCb;have HOr:Hid (∀wy:World,Calls Tryz.prog 96 #[.string o.d,.string v.s] wy fun e w'=>e= .returned (.string (if o.d.size=0 then v.s else o.d))∧w'=wy):=fun wy=>sJ o.d v.s wy
 generalize (if o.d.size=0 then v.s else o.d)=cz at HOr;have HUa:Hid (∀wy:World,Tab Sha.K wy→Rw 101 #[.string o.a,.string o.b,.string cz] wy (.bool (Rs.uO o.a o.b cz))):=fun wy h=>pq o.a o.b cz wy ho.a ho.b h
 have HUb:Hid (∀wy:World,Rw 102 #[.string o.a,.string o.b,.string cz] wy (.bool (Rs.uO o.a o.b cz))):=fun wy=>kL o.a o.b cz wy
 generalize Rs.uO o.a o.b cz=X2 at HUa HUb;have HKEEP:Hid (∀a b:World,(fun y=>Blk y q v.cs 43∧Blk y wx.heap.size o.cs 45∧But q w1 y∧Tab Sha.K y) a→Below a.heap.size a b→(fun y=>Blk y q v.cs 43∧Blk y wx.heap.size o.cs 45∧But q w1 y∧Tab Sha.K y) b):=fun a b h k=>⟨h.1.keep k,h.2.1.keep k,h.2.2.1.keep k (Nat.le_of_lt h.1.lt),h.2.2.2.below k⟩
 obtain⟨c0,c1,c2,c3,c4,c5⟩:=OpV.at hS.2.1;have sO:=o.size;generalize hcs:o.cs=CS at hS c0 c1 c2 c3 c4 c5 sO HKEEP⊢;replace hcs:Hid (o.cs=CS):=hcs;clear v4 hbut hT;rcases hk with hk|hk|hk
 ·rw[hk]at c0;clear HCa HCb HUa HUb HOr sX;go_enter Tryz.func44,Tryz.ntmps44;go_wp2_with fail;clear c0 c1 c2 c3 c4 c5;generalize wx.alloc (.cells CS 45)=wa at hS⊢;refine(HIa.out _ hS.2.2.2).mono ?_;rintro e wb ⟨rfl,kb⟩;replace hS:=HKEEP.out _ _ hS kb;clear kb;have hO:=hS.2.1;rw[←hcs.out]at hO;obtain⟨c0,c1,c2,c3,c4,c5⟩:=OpV.at hO;clear hO;go_wp2_with fail;clear c0 c1 c2 c3 c4 c5;refine(HIb.out _).mono ?_;rintro e wc ⟨rfl,kc⟩;replace hS:=HKEEP.out _ _ hS kc;clear kc HKEEP;have Cf:Hid (Inv q w1 wc):=⟨⟨v,v1,v2,v3,hS.1⟩,hS.2.2.1,hS.2.2.2⟩;clear hS;go_wp2;go_ret;exact⟨rfl,Cf.out⟩
 ·rw[hk]at c0;clear HIa HIb HUa HUb HOr;go_enter Tryz.func44,Tryz.ntmps44;go_wp2_with fail;clear c0 c1 c2 c3 c4 c5;generalize wx.alloc (.cells CS 45)=wa at hS⊢;refine(HCa.out _ hS.2.2.2).mono ?_;rintro e wb ⟨rfl,kb⟩;replace hS:=HKEEP.out _ _ hS kb;clear kb;have hO:=hS.2.1;rw[←hcs.out]at hO;obtain⟨c0,c1,c2,c3,c4,c5⟩:=OpV.at hO;clear hO;go_wp2_with fail;clear c0 c1 c2 c3 c4 c5;refine(HCb.out _).mono ?_;rintro e wc ⟨rfl,kc⟩;replace hS:=HKEEP.out _ _ hS kc;clear kc HKEEP;have f0:=hS.1.frozen 1;have cc:=hS.1.cell 1;rw[show v.cs[1]? =some (.string v.s)from rfl]at cc;have h1:Blk (wc.setCell ⟨q,1,none⟩ (.string X)) q ({v with s:=X}:Wv).cs 43:=hS.1.setAt 1 _ rfl;have h2:=hS.2.2.1.set 1 (.string X);have h3:Tab Sha.K (wc.setCell ⟨q,1,none⟩ (.string X)):=hS.2.2.2.but (bR.setCell (p:=⟨q,1,none⟩) nR _) hq;have Cf:Hid (Inv q w1 (wc.setCell ⟨q,1,none⟩ (.string X))):=⟨⟨{v with s:=X},⟨v1.c,sX,v1.l,v1.t⟩,v2,v3,h1⟩,h2,h3⟩;clear h1 h2 h3 hS;go_wp2;go_ret;exact⟨rfl,Cf.out⟩
 ·rw[hk]at c0;clear HIa HIb HCa HCb sX;go_enter Tryz.func44,Tryz.ntmps44;go_wp2_with fail;clear c0 c1 c2 c3 c4 c5;generalize wx.alloc (.cells CS 45)=wa at hS⊢;rw[←hcs.out]at hS;refine ai (S:=(fun y=>Blk y q v.cs 43∧Blk y wx.heap.size o.cs 45∧But q w1 y∧Tab Sha.K y)) (ls:= []) (by kernel_rfl) ?_;have hSd:(fun y=>Blk y q v.cs 43∧Blk y wx.heap.size o.cs 45∧But q w1 y∧Tab Sha.K y) wa.drew:=⟨hS.1.drew,hS.2.1.drew,hS.2.2.1.drew,hS.2.2.2⟩;clear hS;generalize wa.drew=wd at hSd⊢;have hS:=hSd;clear hSd;refine ac 0 70 hS ?_;refine aa 1 71 (v:= .string o.d) hS ?_ ?_
  ·(intro wx BM;obtain⟨c0,c1,c2,c3,c4,c5⟩:=OpV.at BM.2.1;clear BM;go_simp;try (with_reducible rfl))
  refine ac 2 72 hS ?_;simp only[qQ];refine ac 3 73 hS ?_;refine ac 4 74 hS ?_;refine aa 5 75 (v:= .string v.s) hS ?_ ?_
  ·(intro wx BM;have cc:=BM.1.cell 1;rw[show v.cs[1]? =some (.string v.s)from rfl]at cc;clear BM;go_simp;try (with_reducible rfl))
  simp only[qQ];refine aj 6 fun K hK=> ?_
  go_simp;go_wp2_with (go_at_call 96;refine(HOr.out _).mono ?_;rintro e wf ⟨rfl,hwf⟩);try rw[hwf]
  refine hK.out _ _ hS ?_;try simp only[qQ]
  clear hK K hwf;refine aa 7 13 (v:= .string cz) hS ?_ ?_
  ·exact fun wx _=>rfl
  try simp only[qQ]
  refine ak ?_;obtain⟨c0,c1,c2,c3,c4,c5⟩:=OpV.at hS.2.1;rw[hcs.out]at hS;clear HOr;go_wp2_with fail;clear c0 c1 c2 c3 c4 c5;refine(HUa.out _ hS.2.2.2).mono ?_;rintro e we ⟨rfl,ke⟩;replace hS:=HKEEP.out _ _ hS ke;clear ke;have hO:=hS.2.1;rw[←hcs.out]at hO;obtain⟨c0,c1,c2,c3,c4,c5⟩:=OpV.at hO;clear hO;go_wp2_with fail;clear c0 c1 c2 c3 c4 c5;refine(HUb.out _).mono ?_;rintro e wg ⟨rfl,kg⟩;replace hS:=HKEEP.out _ _ hS kg;clear kg;have Cf:Hid (Inv q w1 wg):=⟨⟨v,v1,v2,v3,hS.1⟩,hS.2.2.1,hS.2.2.2⟩;clear hS;go_wp2;go_ret;exact⟨rfl,Cf.out⟩
theorem oT(s:ByteArray):(Rp.idR s).1.size≤1000000:=by
 unfold Rp.idR;split
 ·show(Rp.uq s).size≤_
  rw[Rp.zk];omega
 ·show(⟨#[]⟩:ByteArray).size≤_
  decide
theorem re(sp:Option Addr)(n cp:Nat)(O:Nat→OpV)(w:World)
  (hn:n≤140737488355328)
  (hs: ∀i,i<n→ ∃b off,sp=some ⟨b,off,none⟩∧b<w.heap.size∧w.rangeAt b (off+i*7) (O i).row)
  (hO: ∀i,i<n→(O i).Ok) (hK:Tab Sha.K w) (hq:0<w.heap.size):
  Rw 6 #[.slice sp n cp] w (.bool true):=by
 have H:Hid (Rw 9 #[.slice sp n cp,.int .i64 8,.int .i64 10] w (.bool true)):=by
  refine n7 (Rp.idR kk).1 (Rp.idR kk).2 8 10 sp n cp O w rfl rfl (fun wx=>cB kk wx) hn hs (fun _ w1 wx=>Inv w.heap.size w1 wx) ?_ ?_ ?_ ?_
  ·intro b1 w1 hb _ hz _;exact⟨⟨zeroV,⟨by decide,by decide,by decide,by decide⟩,rfl,rfl,hz⟩,But.refl _ _,hK.below hb⟩
  ·exact fun _ _ _ h=>h.2.1
  ·intro b1 w1 o ho wx hI;have h1:o.Ok∧ ¬(10<o.k∧o.k<15):=by
    rcases ho with ⟨j,hj,rfl,_,h2⟩|⟨i,hi,rfl,h2⟩
    ·exact⟨tf _ _ _ hj (oT kk),fun h=>by omega⟩
    ·exact⟨hO i hi,h2⟩
   exact oO w.heap.size w1 hq o h1.1 h1.2 (fun h wx hI=>mm pV w hq o h1.1 h w1 wx hI) (fun _ wx hI=>(pD o wx h1.1).mono fun e w' ⟨he,hb⟩=>⟨he,hI.keep hb⟩) (fun h wx hI=>qZ o h1.1 _ w1 wx hq h hI) wx hI
  ·intro b1 w1 wx hI;obtain⟨v,v1,v2,v3,v4⟩:=hI.1;exact(pA v w.heap.size wx v3 v4).mono fun e w' ⟨he,hb⟩=>⟨he,by rw[hb];exact hI⟩
 clear hs hO hK hq hn;go_enter Tryz.func6,Tryz.ntmps6;go_wp2_with fail;refine H.out.mono ?_;rintro e w' ⟨rfl,hb⟩;go_wp2;go_ret;exact⟨rfl,hb⟩
end Go.Proofs.YtclpbaokadfhhaaGreatDoor
