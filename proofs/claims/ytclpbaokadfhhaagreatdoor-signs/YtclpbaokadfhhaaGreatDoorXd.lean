import Derived.Test.YtclpbaokadfhhaaGreatDoorXc
import Derived.Test.YtclpbaokadfhhaaGreatDoorZe
set_option maxRecDepth 100000
set_option maxHeartbeats 4000000
namespace Go.Proofs.YtclpbaokadfhhaaGreatDoor
open Go.RowKit
def fq(p:Nat)(a b:List (BitVec 64))(L:List Nat)(w:World):Prop:=Blk w p (Ws a) 69∧Blk w (p+1) (Ws b) 69∧Blk w (p+1+1+1) (Ws (Ff.flat L)) 163
theorem tL:(#[.int .u64 0,.int .u64 0,.int .u64 0,.int .u64 0,.int .u64 0,.int .u64 0,.int .u64 0,.int .u64 0,.int .u64 0,.int .u64 0]:Array Value)=Ws [0,0,0,0,0,0,0,0,0,0]:=rfl
theorem mg:Ff.flat [0,0,0,0,0]= [0,0,0,0,0,0,0,0,0,0]:=by decide
theorem jM{w:World}{g:Nat}{L:List Nat}(h:Blk w g (Ws (Ff.flat L)) 163)(k:Nat)(hk:k<L.length):
  w.cell? ⟨g,k*2,none⟩=some (.int .u64 (U (Ff.hi (L.getD k 0))))∧w.cell? ⟨g,k*2+1,none⟩=some (.int .u64 (U (Ff.lo (L.getD k 0)))):=by
 have hl:=Ff.flat_length L;rw[h.cell,h.cell,au _ _ (by omega),au _ _ (by omega),Nat.mul_comm k 2,Ff.flat_hi L k hk,Ff.flat_lo L k hk];exact⟨rfl,rfl⟩
theorem lg{w:World}{g:Nat}{L:List Nat}(h:Blk w g (Ws (Ff.flat L)) 163)(k n:Nat):
  (w.setCell ⟨g,k*2,none⟩ (.int .u64 (U (Ff.hi n)))).setCell ⟨g,k*2+1,none⟩ (.int .u64 (U (Ff.lo n)))=w.setRow g (Ws (Ff.flat (L.set k n))):=by
 rw[h.set,(h.row _).set,setRow_setRow,aC,aC,Nat.mul_comm k 2,Ff.flat_set]
theorem aD(a b:List (BitVec 64))(w:World)(ha:a.length=5)(hb:b.length=5):
  Rw 111 #[.agg (Ws a),.agg (Ws b)] w (.agg (Ws (Ff.times a b))):=by
 have sa:=Wz ha;have sb:=Wz hb;have hb1:=Blk.alloc (Blk.alloc (Blk.alloc (Blk.new w (Ws a) 69) (.cells (Ws b) 69)) (.cells (Ws [0,0,0,0,0]) 69)) (.cells (Ws [0,0,0,0,0,0,0,0,0,0]) 163);have hb2:=Blk.alloc (Blk.alloc (Blk.new (w.alloc (.cells (Ws a) 69)) (Ws b) 69) (.cells (Ws [0,0,0,0,0]) 69)) (.cells (Ws [0,0,0,0,0,0,0,0,0,0]) 163);have hb3:=Blk.alloc (Blk.new ((w.alloc (.cells (Ws a) 69)).alloc (.cells (Ws b) 69)) (Ws [0,0,0,0,0]) 69) (.cells (Ws [0,0,0,0,0,0,0,0,0,0]) 163);have hb4:=Blk.new (((w.alloc (.cells (Ws a) 69)).alloc (.cells (Ws b) 69)).alloc (.cells (Ws [0,0,0,0,0]) 69)) (Ws [0,0,0,0,0,0,0,0,0,0]) 163;have BI:Below w.heap.size w ((((w.alloc (.cells (Ws a) 69)).alloc (.cells (Ws b) 69)).alloc (.cells (Ws [0,0,0,0,0]) 69)).alloc (.cells (Ws [0,0,0,0,0,0,0,0,0,0]) 163)):=
  (((bR.alloc nR _).alloc (by simp) _).alloc (by simp;omega) _).alloc (by simp;omega) _
 rw[show (w.alloc (.cells (Ws a) 69)).heap.size=w.heap.size+1 by simp]at hb2;rw[show ((w.alloc (.cells (Ws a) 69)).alloc (.cells (Ws b) 69)).heap.size=w.heap.size+1+1 by simp]at hb3;rw[show (((w.alloc (.cells (Ws a) 69)).alloc (.cells (Ws b) 69)).alloc (.cells (Ws [0,0,0,0,0]) 69)).heap.size=w.heap.size+1+1+1 by simp,←mg]at hb4;go_enter Tryz.func111,Tryz.ntmps111;go_wp2_with fail;rw[FZ5,tL,←mg];rw[←mg]at hb1 hb2 hb3 BI;generalize (((w.alloc (.cells (Ws a) 69)).alloc (.cells (Ws b) 69)).alloc (.cells (Ws [0,0,0,0,0]) 69)).alloc (.cells (Ws (Ff.flat [0,0,0,0,0])) 163)=w1 at hb1 hb2 hb3 hb4 BI⊢;go_loopw [9] (fun i wr=> ∃k:Nat,k≤5∧i= .int .i64 k∧fq w.heap.size a b (Ff.timesTo a b k) wr∧Blk wr (w.heap.size+1+1) (Ws [0,0,0,0,0]) 69∧Below w.heap.size w wr) (fun i _=>5 - (intOf i).toNat)
 case atStart=>exact⟨0,by omega,rfl,⟨hb1,hb2,hb4⟩,hb3,BI⟩
 case round=>
  clear hb1 hb2 hb3 hb4 BI w1;obtain⟨i,hi,rfl,hS,hb3,BI⟩:=hrel;by_cases hlt:i<5
  ·have i1:(i:Int)<5:=by omega
   have hlS:(Ff.timesTo a b i).length=5:=Ff.timesTo_length _ _ _;have HT:Hid (Ff.timesTo a b (i+1)=Ff.rowT a b (Ff.timesTo a b i) i 5):=by
    have:Ff.timesTo a b (i+1)=Ff.rowT a b (Ff.timesTo a b i) i 5:=rfl;exact this
   generalize Ff.timesTo a b i=S at hS hlS HT;go_wp2_with fail;go_loopw [12] (fun c wr=> ∃j:Nat,j≤5∧c= .int .i64 j∧fq w.heap.size a b (Ff.rowT a b S i j) wr∧Blk wr (w.heap.size+1+1) (Ws [0,0,0,0,0]) 69∧Below w.heap.size w wr) (fun c _=>5 - (intOf c).toNat)
   case atStart=>exact⟨0,by omega,rfl,hS,hb3,BI⟩
   case round=>
    clear hS hb3 BI;obtain⟨j,hj,rfl,hS,hb3,BI⟩:=hrel;by_cases hlj:j<5
    ·have j1:(j:Int)<5:=by omega
     have hlL:(Ff.rowT a b S i j).length=5:=by rw[Ff.rowT_length,hlS]
     have HR:Hid (Ff.rowT a b S i (j+1)=Ff.tstep (Ff.rowT a b S i j) a b i j):=by
      have:Ff.rowT a b S i (j+1)=Ff.tstep (Ff.rowT a b S i j) a b i j:=rfl;exact this
     generalize Ff.rowT a b S i j=L at hS hlL HR;have HX:Hid (∀wx:World,Blk wx w.heap.size (Ws a) 69→wx.cell? ⟨w.heap.size,i,none⟩=some (.int .u64 (U (a.getD i 0)))):=fun wx h=>by rw[h.cell,au _ _ (by omega)]
     have HY:Hid (∀wx:World,Blk wx (w.heap.size+1) (Ws b) 69→wx.cell? ⟨w.heap.size+1,j,none⟩=some (.int .u64 (U (b.getD j 0)))):=fun wx h=>by rw[h.cell,au _ _ (by omega)]
     by_cases hs:i+j<5
     ·skip;have s1:(i:Int)+(j:Int)<5:=by omega
      have s2:((i:Int)+(j:Int)).toNat=i+j:=by omega
      have s3:(0:Int)≤(i:Int)+(j:Int):=by omega
      have s4:IntKind.i64.wrap ((i:Int)+(j:Int))=(i:Int)+(j:Int):=by rw[IntKind.wrap_i64];omega
      have HS:Hid (Ff.tstep L a b i j=L.set (i+j) (Ff.uY (L.getD (i+j) 0) (a.getD i 0) (b.getD j 0))):=by
       have:Ff.tstep L a b i j=L.set (i+j) (Ff.uY (L.getD (i+j) 0) (a.getD i 0) (b.getD j 0)):=by unfold Ff.tstep;rw[if_pos hs]
       exact this
      have HL:Hid (∀wx:World,Blk wx (w.heap.size+1+1+1) (Ws (Ff.flat L)) 163→wx.cell? ⟨w.heap.size+1+1+1,(i+j)*2,none⟩=some (.int .u64 (U (Ff.hi (L.getD (i+j) 0))))∧wx.cell? ⟨w.heap.size+1+1+1,(i+j)*2+1,none⟩=some (.int .u64 (U (Ff.lo (L.getD (i+j) 0))))):=fun wx h=>jM h (i+j) (by omega)
      generalize hn:L.getD (i+j) 0=n at HS HL;clear hn;generalize a.getD i 0=x at HX HS;generalize b.getD j 0=y at HY HS;have HW:Hid (Rv 164 #[.agg #[.int .u64 (U (Ff.hi n)),.int .u64 (U (Ff.lo n))],.int .u64 (U x),.int .u64 (U y)] (.agg #[.int .u64 (U (Ff.hi (Ff.uY n x y))),.int .u64 (U (Ff.lo (Ff.uY n x y)))])):=fun wx=>lH n x y wx
      generalize Ff.uY n x y=m at HW HS;generalize hH:Ff.hi n=nh at HL HW;generalize hO:Ff.lo n=nl at HL HW;clear hH hO;go_wp2_with fail;have hS0:fq w.heap.size a b L wr.drew:=hS;have hz1:Blk wr.drew (w.heap.size+1+1) (Ws [0,0,0,0,0]) 69:=hb3;have BR:Below w.heap.size w wr.drew:=BI.drew;refine ck (S:=fq w.heap.size a b L) (l:=12) (by kernel_rfl) ?_;clear hS hb3 BI;generalize World.drew wr=wd at hS0 hz1 BR⊢;refine aB 0 hS0 ?_;refine aB 1 hS0 ?_;refine aB 2 hS0 ?_;refine bs (i:=3) (v:= ?v3p) rfl (by kernel_rfl) (by kernel_rfl) (by kernel_rfl) (by kernel_rfl) (by kernel_rfl) (fun _ _ _ h=>h) (Or.inl ⟨by rfl,?hy3p⟩) hS0 ?rest3p;case hy3p=>(intro wx BM;obtain⟨c0,c1⟩:=HL.out wx BM.2.2;clear BM;go_simp;try (with_reducible rfl))
      refine aB 4 hS0 ?_;refine aB 5 hS0 ?_;refine bs (i:=6) (v:= ?v6p) rfl (by kernel_rfl) (by kernel_rfl) (by kernel_rfl) (by kernel_rfl) (by kernel_rfl) (fun _ _ _ h=>h) (Or.inl ⟨by rfl,?hy6p⟩) hS0 ?rest6p;case hy6p=>(intro wx BM;have c0:=HX.out wx BM.1;clear BM;go_simp;try (with_reducible rfl))
      refine aB 7 hS0 ?_;refine aB 8 hS0 ?_;refine bs (i:=9) (v:= ?v9p) rfl (by kernel_rfl) (by kernel_rfl) (by kernel_rfl) (by kernel_rfl) (by kernel_rfl) (fun _ _ _ h=>h) (Or.inl ⟨by rfl,?hy9p⟩) hS0 ?rest9p;case hy9p=>(intro wx BM;have c0:=HY.out wx BM.2.1;clear BM;go_simp;try (with_reducible rfl))
      refine cI (i:=10) (by kernel_rfl) rfl (fun K hK=> ?_);go_simp;go_wp2_with (go_at_call 164;refine gv HW fun x0 k0=> ?_);have hS1:fq w.heap.size a b L x0:=⟨hS0.1.keep k0,hS0.2.1.keep k0,hS0.2.2.keep k0⟩;have hz2:=hz1.keep k0;have BS:=BR.trans (k0.mono BR.size);refine hK.out _ _ hS1 ?_;clear hK K hS0 hz1 BR k0;try simp only[qQ]
      refine aB 11 hS1 ?_;refine cZ (by kernel_rfl) rfl (by kernel_rfl) (fun K hK=> ?_);obtain⟨c0,c1⟩:=HL.out x0 hS1.2.2;have f0:=hS1.2.2.frozen ((i+j)*2);have f1:=hS1.2.2.frozen ((i+j)*2+1);go_simp;refine hK.out _ _ ?_;clear hK K;go_wp2;go_roundw
      case rel=>
       rw[lg hS1.2.2 (i+j) m];refine⟨j+1,by omega,by go_num,⟨hS1.1.other (by omega) _,hS1.2.1.other (by omega) _,?_⟩,hz2.other (by omega) _,below_setRow BS (by omega) _⟩;rw[show Ff.rowT a b S i (j+1)=_ from HR.out,show Ff.tstep L a b i j=_ from HS.out];exact hS1.2.2.row _
      case measure=>simp[intOf];omega
     ·skip;have s1: ¬(i:Int)+(j:Int)<5:=by omega
      have s2:((i:Int)+(j:Int) - 5).toNat=i+j - 5:=by omega
      have s3:(0:Int)≤(i:Int)+(j:Int) - 5:=by omega
      have s5:(i:Int)+(j:Int) - 5<5:=by omega
      have s4:IntKind.i64.wrap ((i:Int)+(j:Int))=(i:Int)+(j:Int):=by rw[IntKind.wrap_i64];omega
      have s6:IntKind.i64.wrap ((i:Int)+(j:Int) - 5)=(i:Int)+(j:Int) - 5:=by rw[IntKind.wrap_i64];omega
      have HS:Hid (Ff.tstep L a b i j=L.set (i+j - 5) (Ff.uY (L.getD (i+j - 5) 0) (a.getD i 0) (19*b.getD j 0))):=by
       have:Ff.tstep L a b i j=L.set (i+j - 5) (Ff.uY (L.getD (i+j - 5) 0) (a.getD i 0) (19*b.getD j 0)):=by unfold Ff.tstep;rw[if_neg hs]
       exact this
      have HL:Hid (∀wx:World,Blk wx (w.heap.size+1+1+1) (Ws (Ff.flat L)) 163→wx.cell? ⟨w.heap.size+1+1+1,(i+j - 5)*2,none⟩=some (.int .u64 (U (Ff.hi (L.getD (i+j - 5) 0))))∧wx.cell? ⟨w.heap.size+1+1+1,(i+j - 5)*2+1,none⟩=some (.int .u64 (U (Ff.lo (L.getD (i+j - 5) 0))))):=fun wx h=>jM h (i+j - 5) (by omega)
      generalize hn:L.getD (i+j - 5) 0=n at HS HL;clear hn;generalize a.getD i 0=x at HX HS;generalize b.getD j 0=y at HY HS;have a3:=fS y;generalize 19*y=y9 at a3 HS;have HW:Hid (Rv 164 #[.agg #[.int .u64 (U (Ff.hi n)),.int .u64 (U (Ff.lo n))],.int .u64 (U x),.int .u64 (U y9)] (.agg #[.int .u64 (U (Ff.hi (Ff.uY n x y9))),.int .u64 (U (Ff.lo (Ff.uY n x y9)))])):=fun wx=>lH n x y9 wx
      generalize Ff.uY n x y9=m at HW HS;generalize hH:Ff.hi n=nh at HL HW;generalize hO:Ff.lo n=nl at HL HW;clear hH hO;go_wp2_with fail;have hS0:fq w.heap.size a b L wr.drew:=hS;have hz1:Blk wr.drew (w.heap.size+1+1) (Ws [0,0,0,0,0]) 69:=hb3;have BR:Below w.heap.size w wr.drew:=BI.drew;refine ck (S:=fq w.heap.size a b L) (l:=15) (by kernel_rfl) ?_;clear hS hb3 BI;generalize World.drew wr=wd at hS0 hz1 BR⊢;refine aB 0 hS0 ?_;refine aB 1 hS0 ?_;refine aB 2 hS0 ?_;refine aB 3 hS0 ?_;refine aB 4 hS0 ?_;refine bs (i:=5) (v:= ?v5m) rfl (by kernel_rfl) (by kernel_rfl) (by kernel_rfl) (by kernel_rfl) (by kernel_rfl) (fun _ _ _ h=>h) (Or.inl ⟨by rfl,?hy5m⟩) hS0 ?rest5m;case hy5m=>(intro wx BM;obtain⟨c0,c1⟩:=HL.out wx BM.2.2;clear BM;go_simp;try (with_reducible rfl))
      refine aB 6 hS0 ?_;refine aB 7 hS0 ?_;refine bs (i:=8) (v:= ?v8m) rfl (by kernel_rfl) (by kernel_rfl) (by kernel_rfl) (by kernel_rfl) (by kernel_rfl) (fun _ _ _ h=>h) (Or.inl ⟨by rfl,?hy8m⟩) hS0 ?rest8m;case hy8m=>(intro wx BM;have c0:=HX.out wx BM.1;clear BM;go_simp;try (with_reducible rfl))
      refine aB 9 hS0 ?_;refine aB 10 hS0 ?_;refine bs (i:=11) (v:= ?v11m) rfl (by kernel_rfl) (by kernel_rfl) (by kernel_rfl) (by kernel_rfl) (by kernel_rfl) (fun _ _ _ h=>h) (Or.inl ⟨by rfl,?hy11m⟩) hS0 ?rest11m;case hy11m=>(intro wx BM;have c0:=HY.out wx BM.2.1;clear BM;go_simp;try (with_reducible rfl))
      refine aB 12 hS0 ?_;refine cI (i:=13) (by kernel_rfl) rfl (fun K hK=> ?_);go_simp;go_wp2_with (go_at_call 164;refine gv HW fun x0 k0=> ?_);have hS1:fq w.heap.size a b L x0:=⟨hS0.1.keep k0,hS0.2.1.keep k0,hS0.2.2.keep k0⟩;have hz2:=hz1.keep k0;have BS:=BR.trans (k0.mono BR.size);refine hK.out _ _ hS1 ?_;clear hK K hS0 hz1 BR k0;try simp only[qQ]
      refine aB 14 hS1 ?_;refine cZ (by kernel_rfl) rfl (by kernel_rfl) (fun K hK=> ?_);obtain⟨c0,c1⟩:=HL.out x0 hS1.2.2;have f0:=hS1.2.2.frozen ((i+j - 5)*2);have f1:=hS1.2.2.frozen ((i+j - 5)*2+1);go_simp;refine hK.out _ _ ?_;clear hK K;go_wp2;go_roundw
      case rel=>
       rw[lg hS1.2.2 (i+j - 5) m];refine⟨j+1,by omega,by go_num,⟨hS1.1.other (by omega) _,hS1.2.1.other (by omega) _,?_⟩,hz2.other (by omega) _,below_setRow BS (by omega) _⟩;rw[show Ff.rowT a b S i (j+1)=_ from HR.out,show Ff.tstep L a b i j=_ from HS.out];exact hS1.2.2.row _
      case measure=>simp[intOf];omega
    ·have hj5:j=5:=by omega
     subst hj5;go_wp2;go_roundw
     case rel=>exact⟨i+1,by omega,by go_num,by rw[show Ff.timesTo a b (i+1)=_ from HT.out];exact hS,hb3,BI⟩
     case measure=>simp[intOf];omega
  ·have hk8:i=5:=by omega
   subst hk8;rw[show ((5:Nat):Int)=5 from rfl];have hlS:(Ff.timesTo a b 5).length=5:=Ff.timesTo_length _ _ _;have HE:Hid (Ff.times a b=Ff.wJ (Ff.timesTo a b 5)):=by
    have:Ff.times a b=Ff.wJ (Ff.timesTo a b 5):=by unfold Ff.times;rfl
    exact this
   generalize Ff.timesTo a b 5=T at hlS hS HE;have H1:Hid (Rv 165 #[.agg (Ws (Ff.flat T))] (.agg (Ws (Ff.wJ T)))):=fun wx=>pE _ wx hlS
   have hlR:(Ff.wJ T).length=5:=Ff.Ag _;generalize Ff.wJ T=R at H1 hlR HE;have g4:=hS.2.2;unfold Blk at g4;have sT:(Ws (Ff.flat T)).size=10:=by rw[av,Ff.flat_length,hlS]
   have sR:=Wz hlR;generalize Ff.flat T=F at H1 g4 sT;go_wp2_with (first
    |(refine ld ru rfl rfl (w.heap.size+1+1+1) rfl g4 sT ?_))
   refine gv H1 fun w2 k2=> ?_
   replace hb3:=hb3.keep k2;replace BI:=BI.trans (k2.mono BI.size);have hst:=ao (l:=R) hb3 (by rw[hlR];rfl);go_wp2;refine bodyPost_ret (v:= .agg (Ws R)) ?_ rfl ⟨by rw[show Ff.times a b=R from HE.out],below_setRow BI (by omega) _⟩;exact rr t69 rfl rfl (hb3.row _) sR
theorem bF(a:List (BitVec 64))(w:World)(ha:a.length=5):
  Rw 163 #[.agg (Ws a)] w (.agg (Ws (Ff.times a a))):=by
 have sa:=Wz ha;have hb1:Blk ((w.alloc (.cells (Ws a) 69)).alloc (.cells (Ws [0,0,0,0,0]) 69)) w.heap.size (Ws a) 69:=heap_alloc2_old w _ _;have hb2:Blk ((w.alloc (.cells (Ws a) 69)).alloc (.cells (Ws [0,0,0,0,0]) 69)) (w.heap.size+1) (Ws [0,0,0,0,0]) 69:=heap_alloc2_new w _ _;have BI:Below w.heap.size w ((w.alloc (.cells (Ws a) 69)).alloc (.cells (Ws [0,0,0,0,0]) 69)):=(bR.alloc nR _).alloc (by simp) _;have H1:Hid (Rv 111 #[.agg (Ws a),.agg (Ws a)] (.agg (Ws (Ff.times a a)))):=fun wx=>aD a a wx ha ha
 have hlR:(Ff.times a a).length=5:=Ff.times_length _ _;generalize Ff.times a a=R at H1 hlR⊢;have sR:=Wz hlR;have g1:=hb1;unfold Blk at g1;rw[←FZ5]at g1;go_enter Tryz.func163,Tryz.ntmps163;go_wp2_with (first
  |(refine ld t69 rfl rfl w.heap.size rfl g1 sa ?_))
 rw[FZ5];clear g1;generalize (w.alloc (.cells (Ws a) 69)).alloc (.cells (Ws [0,0,0,0,0]) 69)=w1 at hb1 hb2 BI⊢;refine gv H1 fun w2 k2=> ?_
 replace hb2:=hb2.keep k2;replace BI:=BI.trans (k2.mono BI.size);have hst:=ao (l:=R) hb2 (by rw[hlR];rfl);go_wp2;refine bodyPost_ret (v:= .agg (Ws R)) ?_ rfl ⟨rfl,below_setRow BI (by omega) _⟩;exact rr t69 rfl rfl (hb2.row _) sR
theorem dW(a:List (BitVec 64))(n:Nat)(w:World)(ha:a.length=5)(hn:n≤1000):
  Rw 166 #[.agg (Ws a),.int .i64 n] w (.agg (Ws (Ff.tT a n))):=by
 have sa:=Wz ha;have hb1:Blk ((w.alloc (.cells (Ws a) 69)).alloc (.cells (Ws [0,0,0,0,0]) 69)) w.heap.size (Ws a) 69:=heap_alloc2_old w _ _;have hb2:Blk ((w.alloc (.cells (Ws a) 69)).alloc (.cells (Ws [0,0,0,0,0]) 69)) (w.heap.size+1) (Ws [0,0,0,0,0]) 69:=heap_alloc2_new w _ _;have BI:Below w.heap.size w ((w.alloc (.cells (Ws a) 69)).alloc (.cells (Ws [0,0,0,0,0]) 69)):=(bR.alloc nR _).alloc (by simp) _;obtain⟨R0,hR0⟩: ∃R0,R0=Ff.tT a n:=⟨_,rfl⟩
 have HE0:Hid (R0=Ff.tT a n):=hR0;rw[←hR0];clear hR0;go_enter Tryz.func166,Tryz.ntmps166;go_wp2_with fail;rw[FZ5];generalize (w.alloc (.cells (Ws a) 69)).alloc (.cells (Ws [0,0,0,0,0]) 69)=w1 at hb1 hb2 BI⊢;go_loopw [6] (fun i wr=> ∃(k:Nat) (L:List (BitVec 64)),k≤n∧Hid (L=Ff.tT a k)∧i= .int .i64 k∧Blk wr w.heap.size (Ws L) 69∧Blk wr (w.heap.size+1) (Ws [0,0,0,0,0]) 69∧Below w.heap.size w wr) (fun i _=>n - (intOf i).toNat)
 case atStart=>exact⟨0,a,by omega,(show a=Ff.tT a 0 from rfl),rfl,hb1,hb2,BI⟩
 case round=>
  clear hb1 hb2 BI w1;obtain⟨k,S,hk,HL,rfl,hb1,hb2,BI⟩:=hrel;have hlS:S.length=5:=by rw[show S=Ff.tT a k from HL.out];exact Ff.uS _ ha _
  by_cases hlt:k<n
  ·have i1:(k:Int)<n:=by omega
   have HE:Hid (Ff.times S S=Ff.tT a (k+1)):=by
    have:Ff.times S S=Ff.tT a (k+1):=by rw[show S=Ff.tT a k from HL.out];rfl
    exact this
   clear HL;have H1:Hid (Rv 163 #[.agg (Ws S)] (.agg (Ws (Ff.times S S)))):=fun wx=>bF S wx hlS
   have hlR:(Ff.times S S).length=5:=Ff.times_length _ _;generalize Ff.times S S=R at H1 hlR HE;have sS:=Wz hlS;have sR:=Wz hlR;have g1:=hb1;unfold Blk at g1;go_wp2_with (first
    |(refine ld t69 rfl rfl w.heap.size rfl g1 sS ?_))
   clear g1;refine gv H1 fun w2 k2=> ?_
   replace hb1:=hb1.keep k2;replace hb2:=hb2.keep k2;replace BI:=BI.trans (k2.mono BI.size);have hst:=ao (l:=R) hb1 (by rw[hlR,sS]);go_wp2;go_roundw
   case rel=>
    exact⟨k+1,R,by omega,HE,by go_num,hb1.row _,hb2.other (by omega) _,below_setRow BI (by omega) _⟩
   case measure=>simp[intOf];omega
  ·have hk8:k=n:=by omega
   subst hk8;have i1: ¬(k:Int)<k:=by omega
   have g1:=hb1;have g2:=hb2;unfold Blk at g1 g2;have hl:=Wz hlS;have e0:(Ws [0,0,0,0,0]).size=5:=by rw[av];rfl
   go_wp2_with (first
    |(refine ld t69 rfl rfl w.heap.size rfl g1 hl ?_)
    |(refine st t69 rfl rfl (w.heap.size+1) rfl rfl g2 hl e0 (ar _) ?_))
   refine bodyPost_ret (v:= .agg (Ws S)) ?_ rfl ⟨?_,below_setRow BI (by omega) _⟩
   ·exact rr t69 rfl rfl (hb2.row _) hl
   ·rw[show R0=_ from HE0.out,←show S=_ from HL.out]
def OneW(w:World)(p h:Nat)(a H:List (BitVec 64))(w':World):Prop:=
 Blk w' p (Ws a) 69∧Blk w' (p+1) (Ws [0,0,0,0,0]) 69∧Blk w' h (Ws H) 69∧Below p w w'
theorem OneW.keep{w w1 w2:World}{p h:Nat}{a H:List (BitVec 64)}(h1:OneW w p h a H w1)(k:Below w1.heap.size w1 w2):OneW w p h a H w2:=
 ⟨h1.1.keep k,h1.2.1.keep k,h1.2.2.1.keep k,h1.2.2.2.trans (k.mono (by have:=h1.1.lt;omega))⟩
theorem OneW.alloc{w w1:World}{p h:Nat}{a H:List (BitVec 64)}(h1:OneW w p h a H w1)(o:Obj):OneW w p h a H (w1.alloc o):=
 ⟨h1.1.alloc _,h1.2.1.alloc _,h1.2.2.1.alloc _,h1.2.2.2.alloc (by have:=h1.1.lt;omega) _⟩
def SqS(q p:Nat)(T a:List (BitVec 64))(w':World):Prop:=Blk w' q (Ws T) 69∧Blk w' p (Ws a) 69
def tJ(w:World)(p h:Nat)(a H SQ T:List (BitVec 64))(d:Nat→Bool)(u:Nat→Value)(w':World):Prop:=
 (d 3=true→u 17= .agg (Ws SQ))∧(d 5=true→u 19= .agg (Ws T))∧(d 6=true→ ∃q,u 6= .pointer (some ⟨q,0,none⟩)∧Blk w' q (Ws [0,0,0,0,0]) 69∧p+1<q)∧OneW w p h a H w'
theorem mO(a H:List (BitVec 64))(n:Nat)(w:World)(ha:a.length=5)(hH:H.length=5)(hn:n≤1000)(hn1: ¬n=1)(hn0:1≤n)
  (IH:Rv 167 #[.agg (Ws a),.int .i64 ((n/2:Nat):Int)] (.agg (Ws H))):
  Rw 167 #[.agg (Ws a),.int .i64 n] w (.agg (Ws (Ff.xo a H n))):=by
 have sa:=Wz ha;have sH:=Wz hH;have hb1:Blk ((w.alloc (.cells (Ws a) 69)).alloc (.cells (Ws [0,0,0,0,0]) 69)) w.heap.size (Ws a) 69:=heap_alloc2_old w _ _;have hb2:Blk ((w.alloc (.cells (Ws a) 69)).alloc (.cells (Ws [0,0,0,0,0]) 69)) (w.heap.size+1) (Ws [0,0,0,0,0]) 69:=heap_alloc2_new w _ _;have BI:Below w.heap.size w ((w.alloc (.cells (Ws a) 69)).alloc (.cells (Ws [0,0,0,0,0]) 69)):=(bR.alloc nR _).alloc (by simp) _;have e2:((n/2:Nat):Int)=(n:Int)/2:=by omega
 have HO:Hid (Rv 167 #[.agg (Ws a),.int .i64 ((n:Int)/2)] (.agg (Ws H))):=by rw[←e2];exact IH
 have HSq:Hid (Rv 166 #[.agg (Ws H),.int .i64 ((n:Int)/2)] (.agg (Ws (Ff.tT H (n/2))))):=by
  rw[←e2];exact fun wx=>dW H (n/2) wx hH (by omega)
 clear IH;have hlQ:(Ff.tT H (n/2)).length=5:=Ff.uS _ hH _;have HE:Hid (Ff.xo a H n=if n%2=1 then Ff.times (Ff.times (Ff.times (Ff.tT H (n/2)) H) (Ff.times (Ff.tT H (n/2)) H)) a else Ff.times (Ff.tT H (n/2)) H):=by
  have:Ff.xo a H n=if n%2=1 then Ff.times (Ff.times (Ff.times (Ff.tT H (n/2)) H) (Ff.times (Ff.tT H (n/2)) H)) a else Ff.times (Ff.tT H (n/2)) H:=rfl
  exact this
 generalize Ff.xo a H n=RR at HE⊢;generalize Ff.tT H (n/2)=SQ at HSq hlQ HE;have HT:Hid (Rv 111 #[.agg (Ws SQ),.agg (Ws H)] (.agg (Ws (Ff.times SQ H)))):=fun wx=>aD SQ H wx hlQ hH
 have hlT:(Ff.times SQ H).length=5:=Ff.times_length _ _;generalize Ff.times SQ H=T at HT hlT HE;have HS2:Hid (Rv 163 #[.agg (Ws T)] (.agg (Ws (Ff.times T T)))):=fun wx=>bF T wx hlT
 have hlU:(Ff.times T T).length=5:=Ff.times_length _ _;generalize Ff.times T T=UU at HS2 hlU HE;have HT2:Hid (Rv 111 #[.agg (Ws UU),.agg (Ws a)] (.agg (Ws (Ff.times UU a)))):=fun wx=>aD UU a wx hlU ha
 have hlV:(Ff.times UU a).length=5:=Ff.times_length _ _;generalize Ff.times UU a=VV at HT2 hlV HE;have sT:=Wz hlT;have sV:=Wz hlV;have sQ:=Wz hlQ;have i1: ¬(n:Int)=1:=by omega
 have iw:IntKind.i64.wrap ((n:Int)/2)=(n:Int)/2:=by rw[IntKind.wrap_i64];omega
 have g1:=hb1;unfold Blk at g1;rw[←FZ5]at g1;go_enter Tryz.func167,Tryz.ntmps167;go_wp2_with (first
  |(refine ld t69 rfl rfl w.heap.size rfl g1 sa ?_))
 rw[FZ5];clear g1;generalize (w.alloc (.cells (Ws a) 69)).alloc (.cells (Ws [0,0,0,0,0]) 69)=w1 at hb1 hb2 BI⊢;refine gv HO fun w2 k2=> ?_
 replace hb1:=hb1.keep k2;replace hb2:=hb2.keep k2;replace BI:=BI.trans (k2.mono BI.size);clear k2;have hsz:w.heap.size+1<w2.heap.size:=hb2.lt;have hn3:Blk (w2.alloc (.cells #[.int .u64 0,.int .u64 0,.int .u64 0,.int .u64 0,.int .u64 0] 69)) w2.heap.size #[.int .u64 0,.int .u64 0,.int .u64 0,.int .u64 0,.int .u64 0] 69:=Blk.new _ _ _;have hst:=ao (l:=H) hn3 (by rw[hH];rfl);have hW:OneW w w.heap.size w2.heap.size a H ((w2.alloc (.cells #[.int .u64 0,.int .u64 0,.int .u64 0,.int .u64 0,.int .u64 0] 69)).setRow w2.heap.size (Ws H)):=
  ⟨(hb1.alloc _).other (by omega) _,(hb2.alloc _).other (by omega) _,hn3.row _,below_setRow (BI.alloc (by omega) _) (by omega) _⟩
 go_wp2_with fail;clear hst hn3 hb1 hb2 BI;generalize (w2.alloc (.cells #[.int .u64 0,.int .u64 0,.int .u64 0,.int .u64 0,.int .u64 0] 69)).setRow w2.heap.size (Ws H)=w3 at hW⊢;generalize w2.heap.size=h at hW hsz⊢;refine ai (S:=OneW w w.heap.size h a H) (ls:= [7]) (by kernel_rfl) ?_;have hW1:OneW w w.heap.size h a H w3.drew:=⟨hW.1,hW.2.1,hW.2.2.1,hW.2.2.2.drew⟩;generalize World.drew w3=wd at hW1⊢;clear hW;refine aa 0 14 (v:= .agg (Ws H)) hW1 ?_ ?_
 ·exact fun wx BM=>xl t69 BM.2.2.1 sH rfl rfl
 refine ac 1 15 hW1 ?_;refine ac 2 16 hW1 ?_;refine aa 4 18 (v:= .agg (Ws H)) hW1 ?_ ?_
 ·exact fun wx BM=>xl t69 BM.2.2.1 sH rfl rfl
 simp only[qQ];change al _ _ _ _ _ _ 4 #[true,true,true,false,true,false,false,false] _ _;refine bG (R:=tJ w w.heap.size h a H SQ T) [6,17,19] [3,5,6] #[true,true,true,true,true,true,true,false] (by kernel_rfl) (by kernel_rfl) (by kernel_rfl) ⟨fun h=>Bool.noConfusion h,fun h=>Bool.noConfusion h,fun h=>Bool.noConfusion h,hW1⟩ ?steps ?fin;case steps=>
  refine StepsU.cons rfl ?s3 (StepsU.cons rfl ?s5 (StepsU.cons rfl ?s6 StepsU.nil));case s3=>
   rintro d u wx ⟨h3,h5,h6,hX⟩ hd K hK;simp only[ae,qF,qQ];go_simp;go_wp2_with (go_at_call 166;refine gv HSq fun x0 k0=> ?_);refine hK.out (upV u 17 (.agg (Ws SQ))) _ (hX.keep k0) ⟨fun _=>rfl,fun h=>h5 h,fun h=>(by obtain⟨q,e,hb,hq⟩:=h6 h;exact⟨q,e,hb.keep k0,hq⟩),hX.keep k0⟩ _ ?_;simp only[ae,qF,qQ,upV,reduceIte,Nat.reduceEqDiff]
  case s5=>
   rintro d u wx ⟨h3,h5,h6,hX⟩ hd K hK;have e17:=h3 (hd 3 (by kernel_rfl));simp only[ae,qF,qQ,e17];go_simp;go_wp2_with (go_at_call 111;refine gv HT fun x0 k0=> ?_);refine hK.out (upV u 19 (.agg (Ws T))) _ (hX.keep k0) ⟨fun h=>h3 h,fun _=>rfl,fun h=>(by obtain⟨q,e,hb,hq⟩:=h6 h;exact⟨q,e,hb.keep k0,hq⟩),hX.keep k0⟩ _ ?_;simp only[ae,qF,qQ,upV,reduceIte,Nat.reduceEqDiff,e17]
  case s6=>
   rintro d u wx ⟨h3,h5,h6,hX⟩ hd K hK;simp only[ae,qF,qQ];go_simp;refine hK.out (upV u 6 (.pointer (some ⟨wx.heap.size,0,none⟩))) _ (hX.alloc _) ⟨fun h=>h3 h,fun h=>h5 h,fun _=>⟨wx.heap.size,rfl,Blk.new _ _ _,hX.2.1.lt⟩,hX.alloc _⟩ _ ?_;simp only[ae,qF,qQ,upV,reduceIte,Nat.reduceEqDiff]
 case fin=>
  rintro n' d u wx ⟨h3,h5,h6,hX⟩ hd;have e17:=h3 (hd 3 rfl);have e19:=h5 (hd 5 rfl);obtain⟨q,e6,hq,hqp⟩:=h6 (hd 6 rfl);simp only[ae,qF,qQ,e17,e19,e6];clear h3 h5 h6 e17 e19 e6;change al _ _ _ _ _ _ (n'+1) _ _ _;refine am 7 fun K hK=> ?_
  have hst:=ao (l:=T) hq (by rw[hlT];rfl);go_simp;refine hK.out _ _ ?_;clear hK K hst;refine ak ?_;have r1:=hX.1.other (b':=q) (by omega) (Ws T);have r2:=hX.2.1.other (b':=q) (by omega) (Ws T);have r3:=hq.row (Ws T);have rb:=below_setRow (g:=q) hX.2.2.2 (by omega) (Ws T);clear hX hq;generalize wx.setRow q (Ws T)=w4 at r1 r2 r3 rb⊢;by_cases hodd:n%2=1
  ·have i5:(n:Int)%2=1:=by omega
   have hr:RR=VV:=by rw[show RR=_ from HE.out,if_pos hodd]
   subst hr;clear HE HO HSq HT;go_wp2_with fail;refine ai (S:=SqS q w.heap.size T a) (ls:= [4]) (by kernel_rfl) ?_;have hS0:SqS q w.heap.size T a w4.drew:=⟨r3,r1⟩;replace r2:Blk w4.drew (w.heap.size+1) (Ws [0,0,0,0,0]) 69:=r2;replace rb:Below w.heap.size w w4.drew:=rb.drew;clear r1 r3;generalize World.drew w4=w5 at hS0 r2 rb⊢;refine aa 0 23 (v:= .agg (Ws T)) hS0 ?_ ?_
   ·exact fun wx BM=>xl t69 BM.1 sT rfl rfl
   refine aa 2 25 (v:= .agg (Ws a)) hS0 ?_ ?_
   ·exact fun wx BM=>xl t69 BM.2 sa rfl rfl
   simp only[qQ];refine aj 1 fun K hK=> ?_
   go_simp;go_wp2_with (go_at_call 163;refine gv HS2 fun x0 k0=> ?_);have hS1:SqS q w.heap.size T a x0:=⟨hS0.1.keep k0,hS0.2.keep k0⟩;replace r2:=r2.keep k0;replace rb:=rb.trans (k0.mono rb.size);refine hK.out _ _ hS1 ?_;clear hK K k0 hS0;refine aj 3 fun K hK=> ?_
   go_simp;go_wp2_with (go_at_call 111;refine gv HT2 fun x1 k1=> ?_);have hS2:SqS q w.heap.size T a x1:=⟨hS1.1.keep k1,hS1.2.keep k1⟩;replace r2:=r2.keep k1;replace rb:=rb.trans (k1.mono rb.size);refine hK.out _ _ hS2 ?_;clear hK K k1 hS1;refine am 4 fun K hK=> ?_
   have hst:=ao (l:=RR) hS2.1 (by rw[hlV,sT]);go_simp;refine hK.out _ _ ?_;clear hK K hst;refine ak ?_;have z1:=hS2.1.row (Ws RR);have z2:=r2.other (b':=q) (by omega) (Ws RR);have zb:=below_setRow (g:=q) rb (by omega) (Ws RR);clear hS2 r2 rb;generalize x1.setRow q (Ws RR)=x2 at z1 z2 zb⊢;have g1:=z1;have g2:=z2;unfold Blk at g1 g2;have e0:(Ws [0,0,0,0,0]).size=5:=by rw[av];rfl
   go_wp2_with (first
    |(refine ld t69 rfl rfl q rfl g1 sV ?_)
    |(refine st t69 rfl rfl (w.heap.size+1) rfl rfl g2 sV e0 (ar _) ?_))
   refine bodyPost_ret (v:= .agg (Ws RR)) ?_ rfl ⟨rfl,below_setRow zb (by omega) _⟩;exact rr t69 rfl rfl (z2.row _) sV
  ·have i5: ¬(n:Int)%2=1:=by omega
   have hr:RR=T:=by rw[show RR=_ from HE.out,if_neg hodd]
   subst hr;clear HE HO HSq HT;have g1:=r3;have g2:=r2;unfold Blk at g1 g2;have e0:(Ws [0,0,0,0,0]).size=5:=by rw[av];rfl
   go_wp2_with (first
    |(refine ld t69 rfl rfl q rfl g1 sT ?_)
    |(refine st t69 rfl rfl (w.heap.size+1) rfl rfl g2 sT e0 (ar _) ?_))
   refine bodyPost_ret (v:= .agg (Ws RR)) ?_ rfl ⟨rfl,below_setRow rb (by omega) _⟩;exact rr t69 rfl rfl (r2.row _) sT
end Go.Proofs.YtclpbaokadfhhaaGreatDoor
