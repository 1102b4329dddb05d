import Derived.Test.YtclpbaokadfhhaaGreatDoorZk
import Derived.Great.BuildSlice
set_option maxRecDepth 100000
set_option maxHeartbeats 8000000
namespace Go.Proofs.YtclpbaokadfhhaaGreatDoor
open Go.RowKit
theorem pA(v:Wv)(q:Nat)(w:World)(h0:v.ln=0)(hq:Blk w q v.cs 43):
  Calls Tryz.prog 23 #[.pointer (some ⟨q,0,none⟩)] w fun e w'=>e= .returned (.bool true)∧w'=w:=by
 obtain⟨c0,c1,c2,c3,c4,c5⟩:=Wv.at hq;rw[h0]at c4;clear hq h0;go_enter Tryz.func23,Tryz.ntmps23;go_wp2_with fail;go_loopw [3] (fun s wr=>s= .int .i64 0∧wr=w) (fun _ _=>0)
 case atStart=>exact⟨rfl,rfl⟩
 case round=>
  obtain⟨rfl,rfl⟩:=hrel;go_wp2;go_ret;exact⟨rfl,rfl⟩
theorem mN(o:OpV)(v:Wv)(q:Nat)(w:World)(h0:v.l.size=0)(hq:Blk w q v.cs 43):
  Rw 49 #[.pointer (some ⟨q,0,none⟩),.agg o.cs] w (.tuple #[]):=by
 have HI:Hid (Rv 21 #[.string o.a] (.tuple #[.string (Rp.idR o.a).1,.int .i64 (Rp.idR o.a).2])):=fun wx=>cB o.a wx
 generalize (Rp.idR o.a).1=X at HI;generalize (Rp.idR o.a).2=Y at HI;have hq1:Blk (w.alloc (.cells o.cs 45)) q v.cs 43:=hq.alloc _;have hb:Blk (w.alloc (.cells o.cs 45)) w.heap.size o.cs 45:=Blk.new _ _ _;have bel:Below w.heap.size w (w.alloc (.cells o.cs 45)):=bR.alloc nR _;obtain⟨c0,c1,c2,c3,c4,c5⟩:=OpV.at hb;have sO:=o.size;generalize o.cs=CS at hq1 hb bel c0 c1 c2 c3 c4 c5 sO⊢;have e0:((v.l.size:Int))=0:=by omega
 clear hq;go_enter Tryz.func49,Tryz.ntmps49;go_wp2_with fail;clear c0 c1 c2 c3 c4 c5 hb;generalize w.alloc (.cells CS 45)=w1 at hq1 bel⊢;refine gv HI fun w2 k2=> ?_
 replace hq1:=hq1.keep k2;replace bel:=bel.trans (k2.mono bel.size);obtain⟨c0,c1,c2,c3,c4,c5⟩:=Wv.at hq1;clear k2 hq1;go_wp2;first
  |(refine bodyPost_ret (results_none rfl _ _ _) rfl ⟨rfl,bel⟩)
  |(go_ret;exact⟨rfl,bel⟩)
theorem sv(I:World→Prop)(hI: ∀a b,I a→Below a.heap.size a b→I b)(o:OpV)(q:Nat)(w:World)(hw:I w)
  (H1:Hid (o.k=1∨o.k=2∨o.k=3→ ∀wx:World,I wx→Calls Tryz.prog 41 #[.agg o.cs] wx fun e w'=>e= .returned (.bool true)∧I w'))
  (H2:Hid (o.k=4∨o.k=5→ ∀wx:World,I wx→Calls Tryz.prog 42 #[.pointer (some ⟨q,0,none⟩),.agg o.cs] wx fun e w'=>e= .returned (.bool true)∧I w'))
  (H3:Hid (o.k=6∨o.k=7→ ∀wx:World,I wx→Calls Tryz.prog 43 #[.agg o.cs] wx fun e w'=>e= .returned (.bool true)∧I w'))
  (H4:Hid (o.k=8∨o.k=9∨o.k=10→ ∀wx:World,I wx→Calls Tryz.prog 44 #[.pointer (some ⟨q,0,none⟩),.agg o.cs] wx fun e w'=>e= .returned (.bool true)∧I w'))
  (H5:Hid (o.k=11→ ∀wx:World,I wx→Calls Tryz.prog 45 #[.pointer (some ⟨q,0,none⟩),.agg o.cs] wx fun e w'=>e= .returned (.bool true)∧I w'))
  (H6:Hid (o.k=12→ ∀wx:World,I wx→Calls Tryz.prog 46 #[.pointer (some ⟨q,0,none⟩),.agg o.cs] wx fun e w'=>e= .returned (.bool true)∧I w'))
  (H7:Hid (o.k=13∨o.k=14→ ∀wx:World,I wx→Calls Tryz.prog 47 #[.pointer (some ⟨q,0,none⟩),.agg o.cs] wx fun e w'=>e= .returned (.bool true)∧I w'))
  (H8:Hid (o.k=15→ ∀wx:World,I wx→Calls Tryz.prog 48 #[.pointer (some ⟨q,0,none⟩),.agg o.cs] wx fun e w'=>e= .returned (.tuple #[])∧I w'))
  (H9:Hid (o.k=16→ ∀wx:World,I wx→Calls Tryz.prog 49 #[.pointer (some ⟨q,0,none⟩),.agg o.cs] wx fun e w'=>e= .returned (.tuple #[])∧I w'))
  :Calls Tryz.prog 22 #[.pointer (some ⟨q,0,none⟩),.agg o.cs] w fun e w'=>e= .returned (.bool true)∧I w':=by
 have hb:Blk (w.alloc (.cells o.cs 45)) w.heap.size o.cs 45:=Blk.new _ _ _;have hi:Hid (I (w.alloc (.cells o.cs 45))):=hI _ _ hw (bR.alloc nR _);obtain⟨c0,c1,c2,c3,c4,c5⟩:=OpV.at hb;clear c1 c2 c3 c4 c5 hw;have sO:=o.size;generalize o.cs=CS at hb hi c0 H1 H2 H3 H4 H5 H6 H7 H8 H9 sO⊢;unfold Blk at hb;generalize o.k=K at c0 H1 H2 H3 H4 H5 H6 H7 H8 H9;by_cases h1:K=1
 ·subst h1;replace H1:=H1.out (Or.inl rfl);have HH:Hid (∀wx:World,I wx→Calls Tryz.prog 41 #[.agg CS] wx fun e w'=>e= .returned (.bool true)∧I w'):=H1;clear H1 H2 H3 H4 H5 H6 H7 H8 H9;go_enter Tryz.func22,Tryz.ntmps22;go_wp2_with (refine ld t45 rfl rfl (w.heap.size) rfl hb sO ?_);clear c0 hb;generalize w.alloc (.cells CS 45)=w1 at hi⊢;refine(HH.out _ hi.out).mono ?_;rintro e w2 ⟨rfl,k2⟩;replace k2:Hid (I w2):=k2;go_wp2;go_ret;exact⟨rfl,k2.out⟩
 have d1:(K==1)=false:=by rw[beq_eq_false_iff_ne];exact h1
 replace h1:Hid (¬K=1):=h1;by_cases h2:K=2
 ·subst h2;replace H1:=H1.out (Or.inr (Or.inl rfl));have HH:Hid (∀wx:World,I wx→Calls Tryz.prog 41 #[.agg CS] wx fun e w'=>e= .returned (.bool true)∧I w'):=H1;clear H1 H2 H3 H4 H5 H6 H7 H8 H9;go_enter Tryz.func22,Tryz.ntmps22;go_wp2_with (refine ld t45 rfl rfl (w.heap.size) rfl hb sO ?_);clear c0 hb;generalize w.alloc (.cells CS 45)=w1 at hi⊢;refine(HH.out _ hi.out).mono ?_;rintro e w2 ⟨rfl,k2⟩;replace k2:Hid (I w2):=k2;go_wp2;go_ret;exact⟨rfl,k2.out⟩
 have d2:(K==2)=false:=by rw[beq_eq_false_iff_ne];exact h2
 replace h2:Hid (¬K=2):=h2;by_cases h3:K=3
 ·subst h3;replace H1:=H1.out (Or.inr (Or.inr rfl));have HH:Hid (∀wx:World,I wx→Calls Tryz.prog 41 #[.agg CS] wx fun e w'=>e= .returned (.bool true)∧I w'):=H1;clear H1 H2 H3 H4 H5 H6 H7 H8 H9;go_enter Tryz.func22,Tryz.ntmps22;go_wp2_with (refine ld t45 rfl rfl (w.heap.size) rfl hb sO ?_);clear c0 hb;generalize w.alloc (.cells CS 45)=w1 at hi⊢;refine(HH.out _ hi.out).mono ?_;rintro e w2 ⟨rfl,k2⟩;replace k2:Hid (I w2):=k2;go_wp2;go_ret;exact⟨rfl,k2.out⟩
 have d3:(K==3)=false:=by rw[beq_eq_false_iff_ne];exact h3
 replace h3:Hid (¬K=3):=h3;by_cases h4:K=4
 ·subst h4;replace H2:=H2.out (Or.inl rfl);have HH:Hid (∀wx:World,I wx→Calls Tryz.prog 42 #[.pointer (some ⟨q,0,none⟩),.agg CS] wx fun e w'=>e= .returned (.bool true)∧I w'):=H2;clear H1 H2 H3 H4 H5 H6 H7 H8 H9;go_enter Tryz.func22,Tryz.ntmps22;go_wp2_with (refine ld t45 rfl rfl (w.heap.size) rfl hb sO ?_);clear c0 hb;generalize w.alloc (.cells CS 45)=w1 at hi⊢;refine(HH.out _ hi.out).mono ?_;rintro e w2 ⟨rfl,k2⟩;replace k2:Hid (I w2):=k2;go_wp2;go_ret;exact⟨rfl,k2.out⟩
 have d4:(K==4)=false:=by rw[beq_eq_false_iff_ne];exact h4
 replace h4:Hid (¬K=4):=h4;by_cases h5:K=5
 ·subst h5;replace H2:=H2.out (Or.inr rfl);have HH:Hid (∀wx:World,I wx→Calls Tryz.prog 42 #[.pointer (some ⟨q,0,none⟩),.agg CS] wx fun e w'=>e= .returned (.bool true)∧I w'):=H2;clear H1 H2 H3 H4 H5 H6 H7 H8 H9;go_enter Tryz.func22,Tryz.ntmps22;go_wp2_with (refine ld t45 rfl rfl (w.heap.size) rfl hb sO ?_);clear c0 hb;generalize w.alloc (.cells CS 45)=w1 at hi⊢;refine(HH.out _ hi.out).mono ?_;rintro e w2 ⟨rfl,k2⟩;replace k2:Hid (I w2):=k2;go_wp2;go_ret;exact⟨rfl,k2.out⟩
 have d5:(K==5)=false:=by rw[beq_eq_false_iff_ne];exact h5
 replace h5:Hid (¬K=5):=h5;by_cases h6:K=6
 ·subst h6;replace H3:=H3.out (Or.inl rfl);have HH:Hid (∀wx:World,I wx→Calls Tryz.prog 43 #[.agg CS] wx fun e w'=>e= .returned (.bool true)∧I w'):=H3;clear H1 H2 H3 H4 H5 H6 H7 H8 H9;go_enter Tryz.func22,Tryz.ntmps22;go_wp2_with (refine ld t45 rfl rfl (w.heap.size) rfl hb sO ?_);clear c0 hb;generalize w.alloc (.cells CS 45)=w1 at hi⊢;refine(HH.out _ hi.out).mono ?_;rintro e w2 ⟨rfl,k2⟩;replace k2:Hid (I w2):=k2;go_wp2;go_ret;exact⟨rfl,k2.out⟩
 have d6:(K==6)=false:=by rw[beq_eq_false_iff_ne];exact h6
 replace h6:Hid (¬K=6):=h6;by_cases h7:K=7
 ·subst h7;replace H3:=H3.out (Or.inr rfl);have HH:Hid (∀wx:World,I wx→Calls Tryz.prog 43 #[.agg CS] wx fun e w'=>e= .returned (.bool true)∧I w'):=H3;clear H1 H2 H3 H4 H5 H6 H7 H8 H9;go_enter Tryz.func22,Tryz.ntmps22;go_wp2_with (refine ld t45 rfl rfl (w.heap.size) rfl hb sO ?_);clear c0 hb;generalize w.alloc (.cells CS 45)=w1 at hi⊢;refine(HH.out _ hi.out).mono ?_;rintro e w2 ⟨rfl,k2⟩;replace k2:Hid (I w2):=k2;go_wp2;go_ret;exact⟨rfl,k2.out⟩
 have d7:(K==7)=false:=by rw[beq_eq_false_iff_ne];exact h7
 replace h7:Hid (¬K=7):=h7;by_cases h8:K=8
 ·subst h8;replace H4:=H4.out (Or.inl rfl);have HH:Hid (∀wx:World,I wx→Calls Tryz.prog 44 #[.pointer (some ⟨q,0,none⟩),.agg CS] wx fun e w'=>e= .returned (.bool true)∧I w'):=H4;clear H1 H2 H3 H4 H5 H6 H7 H8 H9;go_enter Tryz.func22,Tryz.ntmps22;go_wp2_with (refine ld t45 rfl rfl (w.heap.size) rfl hb sO ?_);clear c0 hb;generalize w.alloc (.cells CS 45)=w1 at hi⊢;refine(HH.out _ hi.out).mono ?_;rintro e w2 ⟨rfl,k2⟩;replace k2:Hid (I w2):=k2;go_wp2;go_ret;exact⟨rfl,k2.out⟩
 have d8:(K==8)=false:=by rw[beq_eq_false_iff_ne];exact h8
 replace h8:Hid (¬K=8):=h8;by_cases h9:K=9
 ·subst h9;replace H4:=H4.out (Or.inr (Or.inl rfl));have HH:Hid (∀wx:World,I wx→Calls Tryz.prog 44 #[.pointer (some ⟨q,0,none⟩),.agg CS] wx fun e w'=>e= .returned (.bool true)∧I w'):=H4;clear H1 H2 H3 H4 H5 H6 H7 H8 H9;go_enter Tryz.func22,Tryz.ntmps22;go_wp2_with (refine ld t45 rfl rfl (w.heap.size) rfl hb sO ?_);clear c0 hb;generalize w.alloc (.cells CS 45)=w1 at hi⊢;refine(HH.out _ hi.out).mono ?_;rintro e w2 ⟨rfl,k2⟩;replace k2:Hid (I w2):=k2;go_wp2;go_ret;exact⟨rfl,k2.out⟩
 have d9:(K==9)=false:=by rw[beq_eq_false_iff_ne];exact h9
 replace h9:Hid (¬K=9):=h9;by_cases h10:K=10
 ·subst h10;replace H4:=H4.out (Or.inr (Or.inr rfl));have HH:Hid (∀wx:World,I wx→Calls Tryz.prog 44 #[.pointer (some ⟨q,0,none⟩),.agg CS] wx fun e w'=>e= .returned (.bool true)∧I w'):=H4;clear H1 H2 H3 H4 H5 H6 H7 H8 H9;go_enter Tryz.func22,Tryz.ntmps22;go_wp2_with (refine ld t45 rfl rfl (w.heap.size) rfl hb sO ?_);clear c0 hb;generalize w.alloc (.cells CS 45)=w1 at hi⊢;refine(HH.out _ hi.out).mono ?_;rintro e w2 ⟨rfl,k2⟩;replace k2:Hid (I w2):=k2;go_wp2;go_ret;exact⟨rfl,k2.out⟩
 have d10:(K==10)=false:=by rw[beq_eq_false_iff_ne];exact h10
 replace h10:Hid (¬K=10):=h10;by_cases h11:K=11
 ·subst h11;replace H5:=H5.out (rfl);have HH:Hid (∀wx:World,I wx→Calls Tryz.prog 45 #[.pointer (some ⟨q,0,none⟩),.agg CS] wx fun e w'=>e= .returned (.bool true)∧I w'):=H5;clear H1 H2 H3 H4 H5 H6 H7 H8 H9;go_enter Tryz.func22,Tryz.ntmps22;go_wp2_with (refine ld t45 rfl rfl (w.heap.size) rfl hb sO ?_);clear c0 hb;generalize w.alloc (.cells CS 45)=w1 at hi⊢;refine(HH.out _ hi.out).mono ?_;rintro e w2 ⟨rfl,k2⟩;replace k2:Hid (I w2):=k2;go_wp2;go_ret;exact⟨rfl,k2.out⟩
 have d11:(K==11)=false:=by rw[beq_eq_false_iff_ne];exact h11
 replace h11:Hid (¬K=11):=h11;by_cases h12:K=12
 ·subst h12;replace H6:=H6.out (rfl);have HH:Hid (∀wx:World,I wx→Calls Tryz.prog 46 #[.pointer (some ⟨q,0,none⟩),.agg CS] wx fun e w'=>e= .returned (.bool true)∧I w'):=H6;clear H1 H2 H3 H4 H5 H6 H7 H8 H9;go_enter Tryz.func22,Tryz.ntmps22;go_wp2_with (refine ld t45 rfl rfl (w.heap.size) rfl hb sO ?_);clear c0 hb;generalize w.alloc (.cells CS 45)=w1 at hi⊢;refine(HH.out _ hi.out).mono ?_;rintro e w2 ⟨rfl,k2⟩;replace k2:Hid (I w2):=k2;go_wp2;go_ret;exact⟨rfl,k2.out⟩
 have d12:(K==12)=false:=by rw[beq_eq_false_iff_ne];exact h12
 replace h12:Hid (¬K=12):=h12;by_cases h13:K=13
 ·subst h13;replace H7:=H7.out (Or.inl rfl);have HH:Hid (∀wx:World,I wx→Calls Tryz.prog 47 #[.pointer (some ⟨q,0,none⟩),.agg CS] wx fun e w'=>e= .returned (.bool true)∧I w'):=H7;clear H1 H2 H3 H4 H5 H6 H7 H8 H9;go_enter Tryz.func22,Tryz.ntmps22;go_wp2_with (refine ld t45 rfl rfl (w.heap.size) rfl hb sO ?_);clear c0 hb;generalize w.alloc (.cells CS 45)=w1 at hi⊢;refine(HH.out _ hi.out).mono ?_;rintro e w2 ⟨rfl,k2⟩;replace k2:Hid (I w2):=k2;go_wp2;go_ret;exact⟨rfl,k2.out⟩
 have d13:(K==13)=false:=by rw[beq_eq_false_iff_ne];exact h13
 replace h13:Hid (¬K=13):=h13;by_cases h14:K=14
 ·subst h14;replace H7:=H7.out (Or.inr rfl);have HH:Hid (∀wx:World,I wx→Calls Tryz.prog 47 #[.pointer (some ⟨q,0,none⟩),.agg CS] wx fun e w'=>e= .returned (.bool true)∧I w'):=H7;clear H1 H2 H3 H4 H5 H6 H7 H8 H9;go_enter Tryz.func22,Tryz.ntmps22;go_wp2_with (refine ld t45 rfl rfl (w.heap.size) rfl hb sO ?_);clear c0 hb;generalize w.alloc (.cells CS 45)=w1 at hi⊢;refine(HH.out _ hi.out).mono ?_;rintro e w2 ⟨rfl,k2⟩;replace k2:Hid (I w2):=k2;go_wp2;go_ret;exact⟨rfl,k2.out⟩
 have d14:(K==14)=false:=by rw[beq_eq_false_iff_ne];exact h14
 replace h14:Hid (¬K=14):=h14;by_cases h15:K=15
 ·subst h15;replace H8:=H8.out (rfl);have HH:Hid (∀wx:World,I wx→Calls Tryz.prog 48 #[.pointer (some ⟨q,0,none⟩),.agg CS] wx fun e w'=>e= .returned (.tuple #[])∧I w'):=H8;clear H1 H2 H3 H4 H5 H6 H7 H8 H9;go_enter Tryz.func22,Tryz.ntmps22;go_wp2_with (refine ld t45 rfl rfl (w.heap.size) rfl hb sO ?_);clear c0 hb;generalize w.alloc (.cells CS 45)=w1 at hi⊢;refine(HH.out _ hi.out).mono ?_;rintro e w2 ⟨rfl,k2⟩;replace k2:Hid (I w2):=k2;go_wp2;go_ret;exact⟨rfl,k2.out⟩
 have d15:(K==15)=false:=by rw[beq_eq_false_iff_ne];exact h15
 replace h15:Hid (¬K=15):=h15;by_cases h16:K=16
 ·subst h16;replace H9:=H9.out (rfl);have HH:Hid (∀wx:World,I wx→Calls Tryz.prog 49 #[.pointer (some ⟨q,0,none⟩),.agg CS] wx fun e w'=>e= .returned (.tuple #[])∧I w'):=H9;clear H1 H2 H3 H4 H5 H6 H7 H8 H9;go_enter Tryz.func22,Tryz.ntmps22;go_wp2_with (refine ld t45 rfl rfl (w.heap.size) rfl hb sO ?_);clear c0 hb;generalize w.alloc (.cells CS 45)=w1 at hi⊢;refine(HH.out _ hi.out).mono ?_;rintro e w2 ⟨rfl,k2⟩;replace k2:Hid (I w2):=k2;go_wp2;go_ret;exact⟨rfl,k2.out⟩
 have d16:(K==16)=false:=by rw[beq_eq_false_iff_ne];exact h16
 replace h16:Hid (¬K=16):=h16;clear H1 H2 H3 H4 H5 H6 H7 H8 H9;go_enter Tryz.func22,Tryz.ntmps22;go_wp2_with (refine ld t45 rfl rfl (w.heap.size) rfl hb sO ?_);go_ret;exact⟨rfl,hi.out⟩
def kk:ByteArray:=⟨#[48,49,50,51,52,53,54,55,56,57,97,98,99,100,101,102,48,49,50,51,52,53,54,55,56,57,97,98,99,100,101,102]⟩
def k12:ByteArray:=⟨#[48,49,50,51,52,53,54,55,56,57,97,98]⟩
def kk2:ByteArray:=⟨#[48,49,50,51,52,53,54,55,56,57,97,98,99,100,101,102,48,49,50,51,52,53,54,55,56,57,97,98,99,100,101,102,48,49,50,51,52,53,54,55,56,57,97,98,99,100,101,102,48,49,50,51,52,53,54,55,56,57,97,98,99,100,101,102]⟩
def tx(l:List UInt8):ByteArray:=⟨l.toArray⟩
def op6(k n:Int)(a b c d:ByteArray):OpV:={k:=k,n:=n,a:=a,b:=b,c:=c,d:=d,p:=none,ln:=0,cp:=0}
def dK(_p a:ByteArray)(b1:Nat):List OpV:=
 [op6 1 0 (tx [97,98,99]) (tx []) (tx []) (tx []),
  op6 2 0 (tx [107]) (tx [100]) (tx []) (tx []),
  op6 3 70 (tx [115]) (tx []) (tx []) (tx []),
  op6 4 0 kk k12 (tx [116]) (tx [100,97,116,97]),
  op6 5 0 kk k12 (tx [116]) (tx []),
  op6 6 0 kk (tx []) (tx []) (tx []),
  op6 7 0 kk kk (tx []) (tx []),
  op6 8 0 kk (tx []) (tx []) (tx []),
  op6 9 0 kk (tx [100,97,116,97]) (tx []) (tx []),
  op6 10 0 a (tx [100,97,116,97]) (tx []) (tx []),
  {k:=11,n:=0,a:=kk,b:=kk2,c:=tx [100,97,116,97],d:=tx [],p:=some ⟨b1,0,none⟩,ln:=1,cp:=1},
  op6 12 0 kk (tx []) (tx []) (tx []),
  op6 13 0 (tx [72,105]) (tx []) (tx []) (tx []),
  op6 14 0 (tx []) (tx []) (tx []) (tx [])]
def nth(p a:ByteArray)(b1 j:Nat):OpV:=(dK p a b1).getD j (op6 0 0 (tx []) (tx []) (tx []) (tx []))
def dk(p a:ByteArray)(b1:Nat):Array Value:=((dK p a b1).flatMap OpV.row).toArray
def zeroV:Wv:={c:=tx [],s:=tx [],l:=tx [],t:=tx [],lp:=none,ln:=0,lc:=0,mp:=none,mn:=0,mc:=0}
theorem kZ: ∀(l:List OpV) (i:Nat) (o:OpV),l[i]? =some o→ ∀(j:Nat) (v:Value),o.row[j]? =some v→(l.flatMap OpV.row)[7*i+j]? =some v
 | [],i,o,h,_,_,_=>by simp at h
 |x::l,0,o,h,j,v,hv=>by
  simp only[List.getElem?_cons_zero,Option.some.injEq]at h;subst h;rw[List.flatMap_cons,Nat.mul_zero,Nat.zero_add,List.getElem?_append_left (List.getElem?_eq_some_iff.1 hv).1];exact hv
 |x::l,i+1,o,h,j,v,hv=>by
  rw[List.getElem?_cons_succ]at h;have:=kZ l i o h j v hv;rw[List.flatMap_cons,List.getElem?_append_right (by show 7≤_;omega)];rw[show 7*(i+1)+j - x.row.length=7*i+j from by show 7*(i+1)+j - 7=_;omega];exact this
theorem pZ{w:World}{b t:Nat}{p a:ByteArray}{b1:Nat}(h:Blk w b (dk p a b1) t)(j:Nat)(hj:j<14):w.rangeAt b (j*7) (nth p a b1 j).row:=by
 intro k v hv;rw[h.cell,Nat.mul_comm];unfold dk;rw[List.getElem?_toArray];refine kZ _ j _ ?_ k v hv;unfold nth;rw[List.getD_eq_getElem?_getD,List.getElem?_eq_getElem (show j<(dK p a b1).length from hj)];rfl
theorem But.range{q b off:Nat}{w w':World}{vs:List Value}(h:But q w w')(hr:w.rangeAt b off vs)(hb:b<w.heap.size)(hne:b≠q):w'.rangeAt b off vs:=fun k v hv=>by
 have:=hr k v hv;unfold World.cell? at this⊢;rw[h.other b hb hne];exact this
theorem kG{B b off:Nat}{w w':World}{vs:List Value}(h:Below B w w')(hr:w.rangeAt b off vs)(hb:b<B):w'.rangeAt b off vs:=fun k v hv=>by
 rw[h.cell (p:=⟨b,off+k,none⟩) hb];exact hr k v hv
theorem OpV.rangeK{w:World}{b off:Nat}{o:OpV}(h:w.rangeAt b off o.row):w.cell? ⟨b,off,none⟩=some (.int .i64 o.k):=h 0 _ rfl
theorem OpV.toL(o:OpV):o.cs.toList=o.row:=by unfold OpV.cs;simp
def zeroOp:OpV:=op6 0 0 (tx []) (tx []) (tx []) (tx [])
theorem qI: ∃ie,Tryz.prog.info? 9=some ie∧ie.size=1∧ie.zero=some (.string (tx [])):=by
 have h:((Tryz.prog.info? 9).map fun i=>(i.size,i.zero))=some (1,some (.string (tx []))):=by kernel_rfl
 cases hi:Tryz.prog.info? 9 with
 |none=>rw[hi]at h;cases h
 |some ie=>
  rw[hi]at h;simp only[Option.map_some,Option.some.injEq,Prod.mk.injEq]at h;exact⟨ie,rfl,h.1,h.2⟩
theorem qJ: ∃ie,Tryz.prog.info? 45=some ie∧ie.size=7∧ie.zero=some (.agg zeroOp.cs):=by
 have h:((Tryz.prog.info? 45).map fun i=>(i.size,i.zero))=some (7,some (.agg zeroOp.cs)):=by kernel_rfl
 cases hi:Tryz.prog.info? 45 with
 |none=>rw[hi]at h;cases h
 |some ie=>
  rw[hi]at h;simp only[Option.map_some,Option.some.injEq,Prod.mk.injEq]at h;exact⟨ie,rfl,h.1,h.2⟩
theorem tg(s:ByteArray):Instr.fill (fun i=>some (i*1,1)) (Array.map (fun x=>(Value.string (tx [])).cells[x%(Value.string (tx [])).cells.size]!) (Array.range (1*1))) [(0,Value.string s)]=some #[Value.string s]:=by kernel_rfl
theorem rl{o:Oper}{a:Act}{w:World}{K:Act→World→Prop}{Q:Exit→Act→World→Prop}(parts:List (Nat×Operand))(ho:o.op= .buildSlice 25 1 parts.toArray)(s:ByteArray)
  (hf:parts.map (fun p=>(p.1,a.eval p.2))= [(0,.string s)])
  (h:K (a.put o.dst (.slice (some ⟨w.heap.size,0,none⟩) 1 1)) (w.alloc (.cells #[.string s] 9))):o.wp Tryz.prog a w K Q:=by
 obtain⟨ie,h1,h2,h3⟩:=qI;refine wp_buildSlice 25 9 1 parts.toArray ho #[.string s] ie _ Tryz.underlying25 h1 h3 (by rw[h2];decide) (by rw[h2];decide) ?_ h;rw[h2,show (parts.toArray.map fun(i,x)=>(i,a.eval x)).toList= [(0,.string s)] by rw[←hf];simp];exact tg s
theorem rm{o:Oper}{a:Act}{w:World}{K:Act→World→Prop}{Q:Exit→Act→World→Prop}(parts:List (Nat×Operand))(ho:o.op= .buildSlice 22 14 parts.toArray)(cells:Array Value)(vs:List (Nat×Value))
  (hv:parts.map (fun p=>(p.1,a.eval p.2))=vs)
  (hf:Instr.fill (fun i=>some (i*7,7)) ((Array.range (14*7)).map fun i=>zeroOp.cs[i%7]!) vs=some cells)
  (h:K (a.put o.dst (.slice (some ⟨w.heap.size,0,none⟩) 14 14)) (w.alloc (.cells cells 45))):o.wp Tryz.prog a w K Q:=by
 obtain⟨ie,h1,h2,h3⟩:=qJ;refine wp_buildSlice 22 45 14 parts.toArray ho cells ie _ Tryz.underlying22 h1 h3 (by rw[h2];decide) (by rw[h2];decide) ?_ h;rw[h2,show (parts.toArray.map fun(i,x)=>(i,a.eval x)).toList=vs by rw[←hv];simp];exact hf
theorem r6(p a:ByteArray)(b1:Nat):Instr.fill (fun i=>some (i*7,7)) ((Array.range (14*7)).map fun i=>zeroOp.cs[i%7]!) ((dK p a b1).zipIdx.map fun x=>(x.2,.agg x.1.cs))=some (dk p a b1):=by kernel_rfl
def Inv(q:Nat)(w1 wx:World):Prop:=
 (∃v:Wv,v.Ok∧v.l.size=0∧v.ln=0∧Blk wx q v.cs 43)∧But q w1 wx∧Tab Sha.K wx
theorem Inv.keep{q:Nat}{w1 a b:World}(h:Inv q w1 a)(k:Below a.heap.size a b):Inv q w1 b:=by
 obtain⟨⟨v,h1,h2,h3,h4⟩,hb,hk⟩:=h;exact⟨⟨v,h1,h2,h3,h4.keep k⟩,hb.keep k (Nat.le_of_lt h4.lt),hk.below k⟩
theorem oO(q:Nat)(w1:World)(hq:0<q)(o:OpV)(ho:o.Ok)(hno: ¬(10<o.k∧o.k<15))
  (hC:o.k=4∨o.k=5→ ∀wx:World,Inv q w1 wx→Calls Tryz.prog 42 #[.pointer (some ⟨q,0,none⟩),.agg o.cs] wx fun e w'=>e= .returned (.bool true)∧Inv q w1 w')
  (hA:o.k=6∨o.k=7→ ∀wx:World,Inv q w1 wx→Calls Tryz.prog 43 #[.agg o.cs] wx fun e w'=>e= .returned (.bool true)∧Inv q w1 w')
  (hS:o.k=8∨o.k=9∨o.k=10→ ∀wx:World,Inv q w1 wx→Calls Tryz.prog 44 #[.pointer (some ⟨q,0,none⟩),.agg o.cs] wx fun e w'=>e= .returned (.bool true)∧Inv q w1 w')
  (wx:World) (hw:Inv q w1 wx):
  Calls Tryz.prog 22 #[.pointer (some ⟨q,0,none⟩),.agg o.cs] wx fun e w'=>e= .returned (.bool true)∧Inv q w1 w':=by
 refine sv (Inv q w1) (fun a b h k=>h.keep k) o q wx hw ?_ hC hA hS ?_ ?_ ?_ ?_ ?_
 ·exact fun _ wx hI=>(n9 o wx ho hI.2.2).mono fun e w' ⟨he,hb⟩=>⟨he,hI.keep hb⟩
 ·exact fun h=>absurd ⟨by omega,by omega⟩ hno
 ·exact fun h=>absurd ⟨by omega,by omega⟩ hno
 ·exact fun h=>absurd ⟨by omega,by omega⟩ hno
 ·intro _ wx hI;obtain⟨⟨v,v1,v2,v3,v4⟩,hb,hk⟩:=hI;refine(pB o v q wx ho v1 v4).mono ?_;rintro e w' ⟨rfl,v',hl,hB,hw⟩;exact⟨rfl,⟨v',⟨by rw[hl.c];exact v1.c,by rw[hl.s];exact v1.s,by rw[hl.l];exact v1.l,by rw[hl.t];exact v1.t⟩,by rw[hl.l];exact v2,by rw[hl.ln];exact v3,hB⟩,hb.trans hw,hk.but hw.below hq⟩
 ·intro _ wx hI;obtain⟨v,v1,v2,v3,v4⟩:=hI.1;exact(mN o v q wx v2 v4).mono fun e w' ⟨he,hb⟩=>⟨he,hI.keep hb⟩
theorem tf(a:ByteArray)(b1 j:Nat)(hj:j<14)(ha:a.size≤1000000):(nth (tx [57]) a b1 j).Ok:=by
 have h: ∀o∈dK (tx [57]) a b1,o.Ok:=by
  intro o ho;simp only[dK,List.mem_cons,List.not_mem_nil,or_false]at ho;rcases ho with rfl|rfl|rfl|rfl|rfl|rfl|rfl|rfl|rfl|rfl|rfl|rfl|rfl|rfl<;>
   (refine⟨?_,?_,?_,?_,?_,?_,?_,?_⟩<;>first|decide|(simp only[op6];decide)|(simp only[op6];omega)|(dsimp only;decide))
 refine h _ ?_;unfold nth;rw[List.getD_eq_getElem?_getD,List.getElem?_eq_getElem (show j<(dK (tx [57]) a b1).length from hj)];exact List.getElem_mem _
end Go.Proofs.YtclpbaokadfhhaaGreatDoor
