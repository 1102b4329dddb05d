import Derived.Test.YtclpbaokadfhhaaGreatDoorZo
import Derived.Test.YtclpbaokadfhhaaGreatDoorShelf
import Derived.Test.YtclpbaokadfhhaaGreatDoorZe
set_option maxRecDepth 100000
set_option maxHeartbeats 2000000
namespace Go.Proofs.YtclpbaokadfhhaaGreatDoor
open Go.RowKit
namespace Cc
def t6(n:Nat):Nat:=(16 - n%16)%16
def fill(s:ByteArray):ByteArray:=s++⟨(List.replicate (t6 s.size) 0).toArray⟩
theorem xF(s:ByteArray):(fill s).size=s.size+t6 s.size:=by
 unfold fill;rw[ByteArray.size_append];congr 1;show(List.replicate (t6 s.size) (0:UInt8)).toArray.size=_;simp
theorem fill_mod(s:ByteArray):(fill s).size%16=0:=by rw[xF];unfold t6;omega
def zq(n:Nat):List UInt8:=yw (ag 8) 0 (BitVec.ofNat 64 n) 8
def ug(s:ByteArray):ByteArray:=⟨(zq s.size).toArray⟩
theorem yx(n:Nat):(zq n).length=8:=by unfold zq;rw[xJ];rfl
theorem xe(s:ByteArray):(ug s).size=8:=by show(zq s.size).toArray.size=8;simp[yx]
end Cc
theorem oU(s:ByteArray)(w:World)(hs:s.size≤1000000):
  Rw 180 #[.string s] w (.string (Cc.fill s)):=by
 have hR:=Tryz.strings_Repeat ⟨#[0]⟩ (Cc.t6 s.size) w (by unfold Cc.t6;omega) (by show 1*_≤_;unfold Cc.t6;omega);rw[show Lib.repeatL (⟨#[0]⟩:ByteArray).data.toList (Cc.t6 s.size)=List.replicate (Cc.t6 s.size) 0 by
  have:=Lib.repeatL_replicate 0 1 (Cc.t6 s.size);rw[Nat.mul_one]at this;exact this]at hR
 have HR:Hid (Rw 225 #[.string ⟨#[0]⟩,.int .i64 (Cc.t6 s.size:Nat)] w (.string ⟨(List.replicate (Cc.t6 s.size) 0).toArray⟩)):=hR;clear hR;have HF:Hid (Cc.fill s=s++⟨(List.replicate (Cc.t6 s.size) 0).toArray⟩):=by
  have:Cc.fill s=s++⟨(List.replicate (Cc.t6 s.size) 0).toArray⟩:=rfl;exact this
 have hn:((16:Int) - (s.size:Int)%16)%16=(Cc.t6 s.size:Nat):=by unfold Cc.t6;omega
 have hle:Cc.t6 s.size≤16:=by unfold Cc.t6;omega
 generalize Cc.fill s=R at HF⊢;generalize Cc.t6 s.size=n at HR HF hn hle;go_enter Tryz.func180,Tryz.ntmps180;go_wp2_with fail;refine HR.out.mono ?_;rintro e w2 ⟨rfl,hb2⟩;have hz:(⟨(List.replicate n (0:UInt8)).toArray⟩:ByteArray).size=n:=by show(List.replicate n (0:UInt8)).toArray.size=n;simp
 generalize (⟨(List.replicate n (0:UInt8)).toArray⟩:ByteArray)=z at hz HF⊢;go_wp2;go_ret;exact⟨by rw[show R=_ from HF.out];rfl,hb2⟩
theorem rj(w:World):Sem.run Tryz.prog (zeroValue 217) w= .ok (.agg (Bs (ag 8))) w:=by kernel_rfl
theorem nF(s:ByteArray)(w:World)(hs:s.size≤1000000):
  Rw 181 #[.string s] w (.string (Cc.ug s)):=by
 have hz:=rj;have hb0:=Blk.new w (Bs (ag 8)) 217;have B9:Below w.heap.size w (w.alloc (.cells (Bs (ag 8)) 217)):=bR.alloc nR _;have HX:Hid ((s.size:Int)=U (BitVec.ofNat 64 s.size)):=by
  have:(s.size:Int)=U (BitVec.ofNat 64 s.size):=dz s.size (by omega);exact this
 have HC:Hid (Cc.ug s=⟨(Cc.yw (ag 8) 0 (BitVec.ofNat 64 s.size) 8).toArray⟩):=by
  have:Cc.ug s=⟨(Cc.yw (ag 8) 0 (BitVec.ofNat 64 s.size) 8).toArray⟩:=rfl;exact this
 generalize Cc.ug s=R at HC⊢;generalize BitVec.ofNat 64 s.size=x at HX HC;have HB:Hid (∀k:Nat,(s.size:Int)/2^(8*k)%256=((Cc.Ac x k).toNat:Int)):=by
  have: ∀k:Nat,(s.size:Int)/2^(8*k)%256=((Cc.Ac x k).toNat:Int):=fun k=>by rw[HX.out,Cc.Ab]
  exact this
 go_enter Tryz.func181,Tryz.ntmps181;go_wp2;generalize w.alloc (.cells (Bs (ag 8)) 217)=w1 at hb0 B9⊢;go_loopw [5] (fun i wr=> ∃k:Nat,k≤8∧i= .int .i64 k∧Blk wr w.heap.size (Bs (Cc.yw (ag 8) 0 x k)) 217∧Below w.heap.size w wr) (fun i _=>8 - (intOf i).toNat)
 case atStart=>exact⟨0,by omega,rfl,hb0,B9⟩
 case round=>
  clear hb0 B9 w1;obtain⟨k,hk,rfl,hb,BI⟩:=hrel;by_cases hlt:k<8
  ·have hc:=hb.cell k;rw[bU _ _ (by rw[Cc.xJ];exact hlt)]at hc;have hf:=hb.frozen k;have i1:(k:Int)<8:=by omega
   go_wp2;go_roundw
   case rel=>
    refine⟨k+1,by omega,by go_num,?_,BI.setCell nR _⟩;rw[hb.set,HB.out,cu];have:=hb.row (Bs ((Cc.yw (ag 8) 0 x k).set k (Cc.Ac x k)));rw[show Cc.yw (ag 8) 0 x (k+1)=(Cc.yw (ag 8) 0 x k).set (0+k) (Cc.Ac x k)from rfl,Nat.zero_add];exact this
   case measure=>simp[intOf];omega
  ·have hk8:k=8:=by omega
   subst hk8;have hlR:(Cc.yw (ag 8) 0 x 8).length=8:=by rw[Cc.xJ];rfl
   generalize Cc.yw (ag 8) 0 x 8=L at hb HC hlR;have hso:=aQ (cap:=8) hb 8 hlR.symm;go_wp2;go_ret;exact⟨by rw[show R=_ from HC.out];rfl,BI⟩
namespace Cc
def BH(f g:Nat→UInt8):Nat→UInt8
 |0=>0
 |k+1=>BH f g k|||(f k^^^g k)
theorem zN(f g:Nat→UInt8)(n:Nat):BH f g n=0↔ ∀i,i<n→f i=g i:=by
 induction n with
 |zero=>exact⟨fun _ i h=>by omega,fun _=>rfl⟩
 |succ n ih=>
  rw[BH];constructor
  ·intro h i hi;have h1:BH f g n=0∧f n^^^g n=0:=by
    have:=h;rw[←UInt8.toBitVec_inj]at this;simp only[UInt8.toBitVec_or,UInt8.toBitVec_ofNat,BitVec.or_eq_zero_iff]at this;exact⟨by rw[←UInt8.toBitVec_inj];simpa using this.1,by rw[←UInt8.toBitVec_inj];simpa using this.2⟩
   by_cases e:i=n
   ·subst e;exact UInt8.xor_eq_zero_iff.1 h1.2
   ·exact ih.1 h1.1 i (by omega)
  ·intro h;rw[ih.2 fun i hi=>h i (by omega),h n (by omega)];simp
end Cc
theorem oI(a c:UInt8):bits .or .u8 (a.toNat:Int) (c.toNat:Int)=((a|||c).toNat:Int):=by
 rw[u8_or_nat _ _ a.toNat_lt c.toNat_lt,UInt8.toNat_or]
def fH(a b:ByteArray):Bool:=decide (a=b)
theorem pY(a b:ByteArray)(ha:a.size=16)(hb:b.size=16):(decide (((Cc.BH (fun i=>a.data.toList.getD i 0) (fun i=>b.data.toList.getD i 0) 16).toNat:Int)=0))=fH a b:=by
 unfold fH;congr 1
 apply propext
 constructor
 ·intro h;have h0:Cc.BH (fun i=>a.data.toList.getD i 0) (fun i=>b.data.toList.getD i 0) 16=0:=by
   rw[←UInt8.toNat_inj];simpa using h
  have h1:=(Cc.zN _ _ _).1 h0;apply ByteArray.ext
  apply Array.ext
  ·show a.size=b.size;omega
  ·intro i h2 h3;have:=h1 i (by rw[←ha];exact h2);simp only[List.getD_eq_getElem?_getD]at this;have e1:a.data.toList[i]? =some a.data[i]:=by simp
   have e2:b.data.toList[i]? =some b.data[i]:=by simp
   rw[e1,e2]at this;simpa using this
 ·intro h;subst h;rw[(Cc.zN _ _ _).2 fun i _=>rfl];rfl
theorem nD(a b:ByteArray)(w:World)(ha:a.size=16)(hb:b.size=16):
  Rw 127 #[.string a,.string b] w (.bool (fH a b)):=by
 have HS:Hid ((decide (((Cc.BH (fun i=>a.data.toList.getD i 0) (fun i=>b.data.toList.getD i 0) 16).toNat:Int)=0))=fH a b):=pY a b ha hb;generalize fH a b=R at HS⊢;have HF:Hid (∀i (h:i<a.size),a[i]=a.data.toList.getD i 0):=fun i h=>bM a i h
 have HG:Hid (∀i (h:i<b.size),b[i]=b.data.toList.getD i 0):=fun i h=>bM b i h
 obtain⟨f,hf⟩: ∃f:Nat→UInt8,f=fun i=>a.data.toList.getD i 0:=⟨_,rfl⟩
 obtain⟨g,hg⟩: ∃g:Nat→UInt8,g=fun i=>b.data.toList.getD i 0:=⟨_,rfl⟩
 have HF':Hid (∀i (h:i<a.size),a[i]=f i):=fun i h=>by rw[hf];exact HF.out i h
 have HG':Hid (∀i (h:i<b.size),b[i]=g i):=fun i h=>by rw[hg];exact HG.out i h
 rw[←hf,←hg]at HS;clear HF HG hf hg;go_enter Tryz.func127,Tryz.ntmps127;go_wp2;go_loopw [5,7] (fun d i wr=> ∃k:Nat,k≤16∧i= .int .i64 k∧d= .int .u8 ((Cc.BH f g k).toNat:Int)∧Below w.heap.size w wr) (fun _ i _=>16 - (intOf i).toNat)
 case atStart=>exact⟨0,by omega,rfl,rfl,Below.refl _ _⟩
 case round=>
  obtain⟨k,hk,rfl,rfl,BI⟩:=hrel;by_cases hlt:k<16
  ·have k1:k<a.size:=by omega
   have k2:k<b.size:=by omega
   have h1:=HF'.out k k1;have h2:=HG'.out k k2;have i1:(k:Int)<16:=by omega
   have i2:(k:Int)<a.size:=by omega
   have i3:(k:Int)<b.size:=by omega
   go_wp2_with fail;go_quiet (fail)
   go_wp2;go_roundw
   case rel=>exact⟨k+1,by omega,by go_num,aP (by rw[dF,oI];rfl),below_drewN BI _⟩
   case measure=>simp[intOf];omega
  ·have BZ:k=16:=by omega
   subst BZ;go_wp2;go_ret;exact⟨by rw[←show _=R from HS.out];rfl,BI⟩
namespace Cc
def BF(l:List UInt8):List UInt8:=if l.length=16 then l else(l++ag (16 - l.length)).set l.length 1
def yP(l:List UInt8)(above:BitVec 64):List (BitVec 64):=ym (wdL (fun i=>l.getD i 0) 8) (wdL (fun i=>l.getD (8+i) 0) 8) above
def piece(l:List UInt8):List (BitVec 64):=yP (BF l) (if l.length=16 then 1 else 0)
end Cc
theorem iq(b t:Nat)(l:List UInt8)(w:World)(hb:Blk w b (Bs l) t)(hl:l.length=16):
  Rw 219 #[.slice (some ⟨b,0,none⟩) 16 16] w (.agg (Ws [Cc.wdL (fun i=>l.getD i 0) 8,Cc.wdL (fun i=>l.getD (8+i) 0) 8])):=
 eI b 0 16 16 (fun i=>l.getD i 0) w (by omega) (by omega) (fun i hi=>by rw[Nat.zero_add,hb.cell,bU _ _ (by omega)])
theorem nr(s:ByteArray)(w:World)(hs:s.size≤16):
  Rw 222 #[.string s] w (.agg (Ws (Cc.piece s.data.toList))):=by
 have hlen:s.data.toList.length=s.size:=by simp
 have hz:=eh;have hcp:=Lib.run_copy_row_string (P:=Tryz.prog) ((w.alloc (.cells (Ws [0,0,0,0,0]) 208)).alloc (.cells (Bs (ag 16)) 179)) 55 9 3 5 (w.heap.size+1) 0 16 16 s (Bs (ag 16)) 179 Tryz.underlying55 Tryz.infoByte1 (heap_alloc2_new w _ _) (by omega) (by rw[ce,aG];omega);have hra:=World.setRow_alloc_new (w.alloc (.cells (Ws [0,0,0,0,0]) 208)) (Bs (ag 16)) (Bs (s.data.toList++ag (16 - s.size))) 179;rw[show (w.alloc (.cells (Ws [0,0,0,0,0]) 208)).heap.size=w.heap.size+1 by simp]at hra;rw[jU s 16,hra,←Z5]at hcp;clear hra;have hL:(s.data.toList++ag (16 - s.size)).length=16:=by simp[aG];omega
 by_cases h16:s.size=16
 ·have HP:Hid (Cc.piece s.data.toList=Cc.yP (s.data.toList++ag (16 - s.size)) 1):=by
   have:Cc.piece s.data.toList=Cc.yP (s.data.toList++ag (16 - s.size)) 1:=by
    unfold Cc.piece Cc.BF;rw[if_pos (by omega),if_pos (by omega),h16];simp[ag]
   exact this
  generalize s.data.toList++ag (16 - s.size)=L0 at hcp hL HP;generalize Cc.piece s.data.toList=R at HP⊢;have hb0:Blk ((w.alloc (.cells #[.int .u64 0,.int .u64 0,.int .u64 0,.int .u64 0,.int .u64 0] 208)).alloc (.cells (Bs L0) 179)) w.heap.size (Ws [0,0,0,0,0]) 208:=heap_alloc2_old w _ _;have hb1:Blk ((w.alloc (.cells #[.int .u64 0,.int .u64 0,.int .u64 0,.int .u64 0,.int .u64 0] 208)).alloc (.cells (Bs L0) 179)) (w.heap.size+1) (Bs L0) 179:=heap_alloc2_new w _ _;have BI:Below w.heap.size w ((w.alloc (.cells #[.int .u64 0,.int .u64 0,.int .u64 0,.int .u64 0,.int .u64 0] 208)).alloc (.cells (Bs L0) 179)):=(bR.alloc nR _).alloc (by simp) _;have HH:=iq (w.heap.size+1) 179 L0 _ hb1 hL;have HH':Hid (Calls Tryz.prog 219 #[.slice (some ⟨w.heap.size+1,0,none⟩) 16 16] ((w.alloc (.cells #[.int .u64 0,.int .u64 0,.int .u64 0,.int .u64 0,.int .u64 0] 208)).alloc (.cells (Bs L0) 179)) fun e w'=>e= .returned (.agg (Ws [Cc.wdL (fun i=>L0.getD i 0) 8,Cc.wdL (fun i=>L0.getD (8+i) 0) 8]))∧Below ((w.alloc (.cells #[.int .u64 0,.int .u64 0,.int .u64 0,.int .u64 0,.int .u64 0] 208)).alloc (.cells (Bs L0) 179)).heap.size ((w.alloc (.cells #[.int .u64 0,.int .u64 0,.int .u64 0,.int .u64 0,.int .u64 0] 208)).alloc (.cells (Bs L0) 179)) w'):=HH;clear HH;have HN:Hid (Rv 217 #[.agg (Ws [Cc.wdL (fun i=>L0.getD i 0) 8,Cc.wdL (fun i=>L0.getD (8+i) 0) 8]),.int .u64 1] (.agg (Ws (Cc.yP L0 1)))):=fun wx=>dJ _ _ 1 wx
  have hlR:(Cc.yP L0 1).length=5:=rfl;generalize Cc.yP L0 1=R2 at HN HP hlR;generalize Cc.wdL (fun i=>L0.getD i 0) 8=lo at HH' HN;generalize Cc.wdL (fun i=>L0.getD (8+i) 0) 8=hi at HH' HN;have i16:(s.size:Int)=16:=by omega
  go_enter Tryz.func222,Tryz.ntmps222;go_wp2_with fail;generalize (w.alloc (.cells #[.int .u64 0,.int .u64 0,.int .u64 0,.int .u64 0,.int .u64 0] 208)).alloc (.cells (Bs L0) 179)=w1 at hb0 hb1 BI HH'⊢;refine HH'.out.mono ?_;rintro e w2 ⟨rfl,hb2⟩;have hq2:=hb0.keep hb2;have BQ:=BI.trans (hb2.mono BI.size);go_wp2_with fail;refine(HN.out w2).mono ?_;rintro e w3 ⟨rfl,hb3⟩;have hq3:=hq2.keep hb3;have BT:=BQ.trans (hb3.mono BQ.size);have hst:=ao (l:=R2) hq3 (by rw[hlR,av];rfl);have hs5:=Wz hlR;go_wp2;refine bodyPost_ret (v:= .agg (Ws R2)) ?_ rfl ⟨by rw[show R=R2 from HP.out],below_setRow BT nR _⟩;exact rr dH rfl rfl (hq3.row _) hs5
 ·have HP:Hid (Cc.piece s.data.toList=Cc.yP ((s.data.toList++ag (16 - s.size)).set s.size 1) 0):=by
   have:Cc.piece s.data.toList=Cc.yP ((s.data.toList++ag (16 - s.size)).set s.size 1) 0:=by
    unfold Cc.piece Cc.BF;rw[if_neg (by omega),if_neg (by omega),hlen]
   exact this
  generalize s.data.toList++ag (16 - s.size)=L0 at hcp hL HP;generalize Cc.piece s.data.toList=R at HP⊢;have hb0:Blk ((w.alloc (.cells #[.int .u64 0,.int .u64 0,.int .u64 0,.int .u64 0,.int .u64 0] 208)).alloc (.cells (Bs L0) 179)) w.heap.size (Ws [0,0,0,0,0]) 208:=heap_alloc2_old w _ _;have hb1:Blk ((w.alloc (.cells #[.int .u64 0,.int .u64 0,.int .u64 0,.int .u64 0,.int .u64 0] 208)).alloc (.cells (Bs L0) 179)) (w.heap.size+1) (Bs L0) 179:=heap_alloc2_new w _ _;have BI:Below w.heap.size w ((w.alloc (.cells #[.int .u64 0,.int .u64 0,.int .u64 0,.int .u64 0,.int .u64 0] 208)).alloc (.cells (Bs L0) 179)):=(bR.alloc nR _).alloc (by simp) _;have HN:Hid (Rv 217 #[.agg (Ws [Cc.wdL (fun i=>(L0.set s.size 1).getD i 0) 8,Cc.wdL (fun i=>(L0.set s.size 1).getD (8+i) 0) 8]),.int .u64 0] (.agg (Ws (Cc.yP (L0.set s.size 1) 0)))):=fun wx=>dJ _ _ 0 wx
  have hlR:(Cc.yP (L0.set s.size 1) 0).length=5:=rfl;generalize Cc.yP (L0.set s.size 1) 0=R2 at HN HP hlR;have i16: ¬(s.size:Int)=16:=by omega
  have i17:(s.size:Int)<16:=by omega
  go_enter Tryz.func222,Tryz.ntmps222;have hc:=hb1.cell s.size;rw[bU _ _ (by omega)]at hc;have hf:=hb1.frozen s.size;go_wp2_with fail;have Ca:=cu L0 s.size 1;rw[show (((1:UInt8).toNat:Nat):Int)=1 from rfl]at Ca;rw[Ca];clear hc hf Ca hb0 hb1 BI hcp;have hL1:(L0.set s.size 1).length=16:=by rw[List.length_set,hL]
  generalize L0.set s.size 1=L1 at HN HP hL1⊢;have hb0:Blk ((w.alloc (.cells #[.int .u64 0,.int .u64 0,.int .u64 0,.int .u64 0,.int .u64 0] 208)).alloc (.cells (Bs L1) 179)) w.heap.size (Ws [0,0,0,0,0]) 208:=heap_alloc2_old w _ _;have hb1:Blk ((w.alloc (.cells #[.int .u64 0,.int .u64 0,.int .u64 0,.int .u64 0,.int .u64 0] 208)).alloc (.cells (Bs L1) 179)) (w.heap.size+1) (Bs L1) 179:=heap_alloc2_new w _ _;have BI:Below w.heap.size w ((w.alloc (.cells #[.int .u64 0,.int .u64 0,.int .u64 0,.int .u64 0,.int .u64 0] 208)).alloc (.cells (Bs L1) 179)):=(bR.alloc nR _).alloc (by simp) _;generalize (w.alloc (.cells #[.int .u64 0,.int .u64 0,.int .u64 0,.int .u64 0,.int .u64 0] 208)).alloc (.cells (Bs L1) 179)=w1 at hb0 hb1 BI⊢;refine(iq (w.heap.size+1) 179 L1 _ hb1 hL1).mono ?_;rintro e w2 ⟨rfl,hb2⟩;generalize Cc.wdL (fun i=>L1.getD i 0) 8=lo at HN⊢;generalize Cc.wdL (fun i=>L1.getD (8+i) 0) 8=hi at HN⊢;have hq2:=hb0.keep hb2;have BQ:=BI.trans (hb2.mono BI.size);go_wp2_with fail;refine(HN.out w2).mono ?_;rintro e w3 ⟨rfl,hb3⟩;have hq3:=hq2.keep hb3;have BT:=BQ.trans (hb3.mono BQ.size);have hst:=ao (l:=R2) hq3 (by rw[hlR,av];rfl);have hs5:=Wz hlR;go_wp2;refine bodyPost_ret (v:= .agg (Ws R2)) ?_ rfl ⟨by rw[show R=R2 from HP.out],below_setRow BT nR _⟩;exact rr dH rfl rfl (hq3.row _) hs5
namespace Cc
def rOf(f:Nat→UInt8):List (BitVec 64):=ym (wdL f 8&&&1152921487695413247) (wdL (fun i=>f (8+i)) 8&&&1152921487695413244) 0
def vb(r:List (BitVec 64))(s:ByteArray):Nat→List (BitVec 64)
 |0=> [0,0,0,0,0]
 |j+1=>times (plus (vb r s j) (piece (s.extract (16*j) (16*j+16)).data.toList)) r
theorem yO(r:List (BitVec 64))(s:ByteArray)(j:Nat):(vb r s j).length=5:=by
 cases j with
 |zero=>rfl
 |succ j=>exact times_length _ _
def tag(f:Nat→UInt8)(s:ByteArray):List UInt8:=wt (lowest (vb (rOf f) s (s.size/16))) (wdL (fun i=>f (16+i)) 8) (wdL (fun i=>f (24+i)) 8)
theorem yj(f:Nat→UInt8)(s:ByteArray):(tag f s).length=16:=tellSum_length _ _ _
theorem plus_length(a b:List (BitVec 64)):(plus a b).length=a.length:=plusTo_length _ _ _
theorem AG(l:List UInt8):(piece l).length=5:=rfl
end Cc
theorem oF(h0 h1 h2 h3 h4:BitVec 64)(b:List (BitVec 64))(hb:b.length=5)(w:World):
  Rw 221 #[.agg #[.int .u64 (U h0),.int .u64 (U h1),.int .u64 (U h2),.int .u64 (U h3),.int .u64 (U h4)],.agg (Ws b)] w (.agg (Ws (Cc.plus [h0,h1,h2,h3,h4] b))):=
 nE [h0,h1,h2,h3,h4] b w rfl hb
theorem mW(a:List (BitVec 64))(ha:a.length=5)(h0 h1 h2 h3 h4:BitVec 64)(w:World):
  Rw 220 #[.agg (Ws a),.agg #[.int .u64 (U h0),.int .u64 (U h1),.int .u64 (U h2),.int .u64 (U h3),.int .u64 (U h4)]] w (.agg (Ws (Cc.times a [h0,h1,h2,h3,h4]))):=
 mX a [h0,h1,h2,h3,h4] w ha rfl
theorem ma(h0 h1 h2 h3 h4:BitVec 64)(w:World):
  Rw 224 #[.agg #[.int .u64 (U h0),.int .u64 (U h1),.int .u64 (U h2),.int .u64 (U h3),.int .u64 (U h4)]] w (.agg (Ws (Cc.lowest [h0,h1,h2,h3,h4]))):=
 mb [h0,h1,h2,h3,h4] w rfl
def j8(p:Nat)(h r:List (BitVec 64))(w:World):Prop:=Blk w (p+1) (Ws h) 208∧Blk w p (Ws r) 208
theorem pU(b off cap:Nat)(f:Nat→UInt8)(s:ByteArray)(w:World)(hcap:32≤cap)(hm:cap≤1000000)(hs:s.size≤1000000)(h16:s.size%16=0)
  (hc: ∀i,i<32→w.cell? ⟨b,off+i,none⟩=some (.int .u8 (f i).toNat)):
  Rw 179 #[.slice (some ⟨b,off,none⟩) 32 cap,.string s] w (.agg (Bs (Cc.tag f s))):=by
 have hblt:b<w.heap.size:=block_lt_of_cell (hc 0 (by omega));have HC:Hid (∀i,i<32→w.cell? ⟨b,off+i,none⟩=some (.int .u8 (f i).toNat)):=hc;clear hc;have hz:=eh;have HG:Hid (Cc.tag f s=Cc.wt (Cc.lowest (Cc.vb (Cc.rOf f) s (s.size/16))) (Cc.wdL (fun i=>f (16+i)) 8) (Cc.wdL (fun i=>f (24+i)) 8)):=by
  have:Cc.tag f s=Cc.wt (Cc.lowest (Cc.vb (Cc.rOf f) s (s.size/16))) (Cc.wdL (fun i=>f (16+i)) 8) (Cc.wdL (fun i=>f (24+i)) 8):=rfl;exact this
 have hlG:(Cc.tag f s).length=16:=Cc.yj _ _;generalize Cc.tag f s=G at HG hlG⊢;have HLO:Hid (Rv 218 #[.agg (Ws [Cc.wdL f 8,Cc.wdL (fun i=>f (8+i)) 8])] (.agg (Ws [Cc.wdL f 8&&&1152921487695413247,Cc.wdL (fun i=>f (8+i)) 8&&&1152921487695413244]))):=fun wx=>jL _ _ wx
 have HRO:Hid (Rv 217 #[.agg (Ws [Cc.wdL f 8&&&1152921487695413247,Cc.wdL (fun i=>f (8+i)) 8&&&1152921487695413244]),.int .u64 0] (.agg (Ws (Cc.rOf f)))):=fun wx=>dJ _ _ 0 wx
 have HHA:Hid (∀(wx:World),(∀i,i<16→wx.cell? ⟨b,off+i,none⟩=some (.int .u8 (f i).toNat))→Rw 219 #[.slice (some ⟨b,off,none⟩) 32 cap] wx (.agg (Ws [Cc.wdL f 8,Cc.wdL (fun i=>f (8+i)) 8]))):=fun wx h=>eI b off 32 cap f wx (by omega) (by omega) h
 have HHB:Hid (∀(wx:World),(∀i,i<16→wx.cell? ⟨b,off+16+i,none⟩=some (.int .u8 (f (16+i)).toNat))→Rw 219 #[.slice (some ⟨b,off+16,none⟩) 16 (cap - 16)] wx (.agg (Ws [Cc.wdL (fun i=>f (16+i)) 8,Cc.wdL (fun i=>f (24+i)) 8]))):=fun wx h=>by
  have:=eI b (off+16) 16 (cap - 16) (fun i=>f (16+i)) wx (by omega) (by omega) h;rw[show Cc.yM (fun i=>f (16+i))= [Cc.wdL (fun i=>f (16+i)) 8,Cc.wdL (fun i=>f (24+i)) 8] by
   show [Cc.wdL (fun i=>f (16+i)) 8,Cc.wdL (fun i=>f (16+(8+i))) 8]=_
   rw[show (fun i=>f (16+(8+i)))=fun i=>f (24+i)from funext fun i=>by rw[←Nat.add_assoc]]]at this
  exact this
 have hlr:(Cc.rOf f).length=5:=rfl;generalize Cc.rOf f=r at HG HRO hlr;generalize Cc.wdL f 8&&&1152921487695413247=y1 at HLO HRO;generalize Cc.wdL (fun i=>f (8+i)) 8&&&1152921487695413244=y2 at HLO HRO;generalize Cc.wdL f 8=y3 at HLO HHA;generalize Cc.wdL (fun i=>f (8+i)) 8=y4 at HLO HHA;generalize Cc.wdL (fun i=>f (16+i)) 8=s0 at HG HHB;generalize Cc.wdL (fun i=>f (24+i)) 8=s1 at HG HHB;obtain⟨r0,r1,r2,r3,r4,rfl⟩:=cv r hlr;have hb0:=Blk.new w (Bs (ag 16)) 179;have B9:Below w.heap.size w (w.alloc (.cells (Bs (ag 16)) 179)):=bR.alloc nR _;go_enter Tryz.func179,Tryz.ntmps179;go_wp2_with fail;refine(HHA.out _ ?_).mono ?_
 ·intro i hi;rw[B9.cell (p:=⟨b,off+i,none⟩) hblt];exact HC.out i (by omega)
 rintro e w1 ⟨rfl,hb1⟩;have q1:=hb0.keep hb1;have BR:=B9.trans (hb1.mono B9.size);clear hb0 B9 hb1;go_wp2_with fail;refine gv HLO fun w2 hb2=> ?_
 have q2:=q1.keep hb2;have BS:=BR.trans (hb2.mono BR.size);clear q1 BR hb2;go_wp2_with fail;refine gv HRO fun w3 hb3=> ?_
 have q3:=q2.keep hb3;have CE:=BS.trans (hb3.mono BS.size);clear q2 BS hb3;rw[show Ws [r0,r1,r2,r3,r4]= #[.int .u64 (U r0),.int .u64 (U r1),.int .u64 (U r2),.int .u64 (U r3),.int .u64 (U r4)]from rfl];go_wp2_with fail;have hb5:Blk ((w3.alloc (.cells #[.int .u64 (U r0),.int .u64 (U r1),.int .u64 (U r2),.int .u64 (U r3),.int .u64 (U r4)] 208)).alloc (.cells #[.int .u64 0,.int .u64 0,.int .u64 0,.int .u64 0,.int .u64 0] 208)) w3.heap.size (Ws [r0,r1,r2,r3,r4]) 208:=heap_alloc2_old w3 _ _;have hb6:Blk ((w3.alloc (.cells #[.int .u64 (U r0),.int .u64 (U r1),.int .u64 (U r2),.int .u64 (U r3),.int .u64 (U r4)] 208)).alloc (.cells #[.int .u64 0,.int .u64 0,.int .u64 0,.int .u64 0,.int .u64 0] 208)) (w3.heap.size+1) (Ws [0,0,0,0,0]) 208:=heap_alloc2_new w3 _ _;have hb4:=(q3.alloc (.cells #[.int .u64 (U r0),.int .u64 (U r1),.int .u64 (U r2),.int .u64 (U r3),.int .u64 (U r4)] 208)).alloc (.cells #[.int .u64 0,.int .u64 0,.int .u64 0,.int .u64 0,.int .u64 0] 208);have hlt4:w.heap.size<w3.heap.size:=q3.lt;have BI:Below w.heap.size w ((w3.alloc (.cells #[.int .u64 (U r0),.int .u64 (U r1),.int .u64 (U r2),.int .u64 (U r3),.int .u64 (U r4)] 208)).alloc (.cells #[.int .u64 0,.int .u64 0,.int .u64 0,.int .u64 0,.int .u64 0] 208)):=(CE.alloc (by omega) _).alloc (by simp;omega) _;generalize (w3.alloc (.cells #[.int .u64 (U r0),.int .u64 (U r1),.int .u64 (U r2),.int .u64 (U r3),.int .u64 (U r4)] 208)).alloc (.cells #[.int .u64 0,.int .u64 0,.int .u64 0,.int .u64 0,.int .u64 0] 208)=w4 at hb5 hb6 hb4 BI⊢;generalize w3.heap.size=p at hb5 hb6 hlt4⊢;clear q3 CE HLO HRO HHA;go_loopw [7] (fun c wr=> ∃j:Nat,16*j≤s.size∧c= .int .i64 (16*j:Nat)∧Blk wr p (Ws [r0,r1,r2,r3,r4]) 208∧Blk wr (p+1) (Ws (Cc.vb [r0,r1,r2,r3,r4] s j)) 208∧Blk wr w.heap.size (Bs (ag 16)) 179∧Below w.heap.size w wr) (fun c _=>s.size - (intOf c).toNat)
 case atStart=>exact⟨0,by omega,rfl,hb5,hb6,hb4,BI⟩
 case round=>
  clear hb5 hb6 hb4 BI w4;obtain⟨j,hj,rfl,hb5,hb6,hb4,BI⟩:=hrel;by_cases hlt:16*j<s.size
  ·have hle:16*j+16≤s.size:=by omega
   have HT:Hid (Cc.vb [r0,r1,r2,r3,r4] s (j+1)=Cc.times (Cc.plus (Cc.vb [r0,r1,r2,r3,r4] s j) (Cc.piece (s.extract (16*j) (16*j+16)).data.toList)) [r0,r1,r2,r3,r4]):=by
    have:Cc.vb [r0,r1,r2,r3,r4] s (j+1)=Cc.times (Cc.plus (Cc.vb [r0,r1,r2,r3,r4] s j) (Cc.piece (s.extract (16*j) (16*j+16)).data.toList)) [r0,r1,r2,r3,r4]:=rfl;exact this
   have hlH:(Cc.vb [r0,r1,r2,r3,r4] s j).length=5:=Cc.yO _ _ _;generalize Cc.vb [r0,r1,r2,r3,r4] s j=H at hb6 HT hlH;obtain⟨h0,h1,h2,h3,h4,rfl⟩:=cv H hlH;generalize hat:16*j=at0 at hj hlt hle HT;have HAT:Hid (16*j=at0):=hat;clear hat;have HPc:Hid (Rv 222 #[.string (s.extract at0 (at0+16))] (.agg (Ws (Cc.piece (s.extract at0 (at0+16)).data.toList)))):=fun wx=>nr _ wx (by simp;omega)
   have HPl:Hid (Rv 221 #[.agg #[.int .u64 (U h0),.int .u64 (U h1),.int .u64 (U h2),.int .u64 (U h3),.int .u64 (U h4)],.agg (Ws (Cc.piece (s.extract at0 (at0+16)).data.toList))] (.agg (Ws (Cc.plus [h0,h1,h2,h3,h4] (Cc.piece (s.extract at0 (at0+16)).data.toList))))):=fun wx=>oF _ _ _ _ _ _ (Cc.AG _) wx
   have HTm:Hid (Rv 220 #[.agg (Ws (Cc.plus [h0,h1,h2,h3,h4] (Cc.piece (s.extract at0 (at0+16)).data.toList))),.agg #[.int .u64 (U r0),.int .u64 (U r1),.int .u64 (U r2),.int .u64 (U r3),.int .u64 (U r4)]] (.agg (Ws (Cc.times (Cc.plus [h0,h1,h2,h3,h4] (Cc.piece (s.extract at0 (at0+16)).data.toList)) [r0,r1,r2,r3,r4])))):=fun wx=>mW _ (by rw[Cc.plus_length];rfl) _ _ _ _ _ wx
   have hlT:(Cc.times (Cc.plus [h0,h1,h2,h3,h4] (Cc.piece (s.extract at0 (at0+16)).data.toList)) [r0,r1,r2,r3,r4]).length=5:=Cc.times_length _ _;generalize Cc.times (Cc.plus [h0,h1,h2,h3,h4] (Cc.piece (s.extract at0 (at0+16)).data.toList)) [r0,r1,r2,r3,r4]=T at HT HTm hlT;generalize Cc.plus [h0,h1,h2,h3,h4] (Cc.piece (s.extract at0 (at0+16)).data.toList)=Q at HPl HTm;generalize Cc.piece (s.extract at0 (at0+16)).data.toList=P at HPc HPl;obtain⟨c0,c1,c2,c3,c4⟩:=cN hb6;obtain⟨d0,d1,d2,d3,d4⟩:=cN hb5;have a0:(at0:Int)<s.size:=by omega
   have a1:(0:Int)≤(at0:Int):=by omega
   have a2:(at0:Int)+16≤s.size:=by omega
   have a3:IntKind.i64.wrap ((at0:Int)+16)=(at0:Int)+16:=by rw[IntKind.wrap_i64];omega
   have a4:min ((at0:Int)+16) (s.size:Int)=(at0:Int)+16:=by omega
   have a5:(at0:Int)≤(at0:Int)+16:=by omega
   have a6:(0:Int)≤(at0:Int)+16:=by omega
   have a7:((at0:Int)+16).toNat=at0+16:=by omega
   have a8:at0≤s.size:=by omega
   have a9:at0+16≤s.size:=by omega
   have hsT:=Wz hlT;go_wp2_with fail;clear HG HHB HC hblt hz hlG hlr;have hS0:j8 p [h0,h1,h2,h3,h4] [r0,r1,r2,r3,r4] wr.drew:=⟨hb6,hb5⟩;have hz1:Blk wr.drew w.heap.size (Bs (ag 16)) 179:=hb4;have BR:Below w.heap.size w wr.drew:=BI.drew;refine ck (S:=j8 p [h0,h1,h2,h3,h4] [r0,r1,r2,r3,r4]) (l:=13) (by kernel_rfl) ?_;clear c0 c1 c2 c3 c4 d0 d1 d2 d3 d4 hb4 hb5 hb6 BI;generalize World.drew wr=wd at hS0 hz1 BR⊢;refine aB 1 hS0 ?_;refine aB 2 hS0 ?_;refine aB 3 hS0 ?_;refine aB 4 hS0 ?_;refine aB 5 hS0 ?_;refine aB 6 hS0 ?_;refine aB 7 hS0 ?_;refine aB 8 hS0 ?_;refine bs (i:=0) (v:= ?v0) rfl (by kernel_rfl) (by kernel_rfl) (by kernel_rfl) (by kernel_rfl) (by kernel_rfl) (fun _ _ _ h=>h) (Or.inl ⟨by rfl,?hy0⟩) hS0 ?rest0;case hy0=>(intro wx BM;obtain⟨k1,k2⟩:=BM;obtain⟨c0,c1,c2,c3,c4⟩:=cN k1;obtain⟨d0,d1,d2,d3,d4⟩:=cN k2;clear k1 k2;go_simp;try (with_reducible rfl))
   refine bs (i:=11) (v:= ?v11) rfl (by kernel_rfl) (by kernel_rfl) (by kernel_rfl) (by kernel_rfl) (by kernel_rfl) (fun _ _ _ h=>h) (Or.inl ⟨by rfl,?hy11⟩) hS0 ?rest11;case hy11=>(intro wx BM;obtain⟨k1,k2⟩:=BM;obtain⟨c0,c1,c2,c3,c4⟩:=cN k1;obtain⟨d0,d1,d2,d3,d4⟩:=cN k2;clear k1 k2;go_simp;try (with_reducible rfl))
   refine cI (i:=9) (by kernel_rfl) rfl (fun K hK=> ?_);go_simp;go_wp2_with (go_at_call 222;refine gv HPc fun x0 k0=> ?_);have hS1:j8 p [h0,h1,h2,h3,h4] [r0,r1,r2,r3,r4] x0:=⟨hS0.1.keep k0,hS0.2.keep k0⟩;have hz2:=hz1.keep k0;have BS:=BR.trans (k0.mono BR.size);refine hK.out _ _ hS1 ?_;clear hK K hS0 hz1 BR k0;try simp only[qQ]
   refine cI (i:=10) (by kernel_rfl) rfl (fun K hK=> ?_);go_simp;go_wp2_with (go_at_call 221;refine gv HPl fun x1 k1=> ?_);have hS2:j8 p [h0,h1,h2,h3,h4] [r0,r1,r2,r3,r4] x1:=⟨hS1.1.keep k1,hS1.2.keep k1⟩;have hz3:=hz2.keep k1;have CE:=BS.trans (k1.mono BS.size);refine hK.out _ _ hS2 ?_;clear hK K hS1 hz2 BS k1;try simp only[qQ]
   refine cI (i:=12) (by kernel_rfl) rfl (fun K hK=> ?_);go_simp;go_wp2_with (go_at_call 220;refine gv HTm fun x2 k2=> ?_);have hS3:j8 p [h0,h1,h2,h3,h4] [r0,r1,r2,r3,r4] x2:=⟨hS2.1.keep k2,hS2.2.keep k2⟩;have hz4:=hz3.keep k2;have Cj:=CE.trans (k2.mono CE.size);refine hK.out _ _ hS3 ?_;clear hK K hS2 hz3 CE k2;try simp only[qQ]
   refine cZ (by kernel_rfl) rfl (by kernel_rfl) (fun K hK=> ?_);have hst:=ao (l:=T) hS3.1 (by rw[hlT];rfl);go_simp;refine hK.out _ _ ?_;clear hK K;go_wp2;go_roundw
   case rel=>
    refine⟨j+1,by have:=HAT.out;omega,aP (by have:=HAT.out;omega),hS3.2.other (by omega) _,?_,hz4.other (by omega) _,below_setRow Cj (by omega) _⟩;rw[show Cc.vb [r0,r1,r2,r3,r4] s (j+1)=T from HT.out];exact hS3.1.row _
   case measure=>simp[intOf];have:=HAT.out;omega
  ·have hj':16*j=s.size:=by omega
   have hj2:s.size/16=j:=by omega
   have hlH:(Cc.vb [r0,r1,r2,r3,r4] s j).length=5:=Cc.yO _ _ _;rw[hj2]at HG;generalize Cc.vb [r0,r1,r2,r3,r4] s j=H at hb6 HG hlH;obtain⟨h0,h1,h2,h3,h4,rfl⟩:=cv H hlH;obtain⟨c0,c1,c2,c3,c4⟩:=cN hb6;have HLw:Hid (Rv 224 #[.agg #[.int .u64 (U h0),.int .u64 (U h1),.int .u64 (U h2),.int .u64 (U h3),.int .u64 (U h4)]] (.agg (Ws (Cc.lowest [h0,h1,h2,h3,h4])))):=fun wx=>ma _ _ _ _ _ wx
   have HTe:Hid (Rv 223 #[.agg (Ws (Cc.lowest [h0,h1,h2,h3,h4])),.agg (Ws [s0,s1])] (.agg (Bs (Cc.wt (Cc.lowest [h0,h1,h2,h3,h4]) s0 s1)))):=fun wx=>kr _ s0 s1 wx (by rw[Cc.lowest_length];rfl)
   rw[←show G=_ from HG.out]at HTe;generalize Cc.lowest [h0,h1,h2,h3,h4]=L at HLw HTe;clear HG;have i32:(16:Int)≤cap:=by omega
   have hsG:=Bz hlG;have i33: ¬cap=16:=by omega
   have hcw:Hid (∀wx:World,Below w.heap.size w wx→ ∀i,i<16→wx.cell? ⟨b,off+16+i,none⟩=some (.int .u8 (f (16+i)).toNat)):=fun wx hw i hi=>by
    rw[hw.cell (p:=⟨b,off+16+i,none⟩) hblt,Nat.add_assoc];exact HC.out (16+i) (by omega)
   go_wp2_with fail;go_region_with (first
    |(go_at_call 224;refine gv HLw fun w2 k2=> ?_;have hz2:Blk w2 _ _ _:=Blk.keep (w:=wr.drew) hb4 k2;have b2:=Below.trans (Below.drew BI) (Below.mono k2 BI.size))
    |(go_at_call 219;refine(HHB.out _ ?_).mono ?_;exact hcw.out _ b2;rintro e w3 ⟨rfl,k3⟩;have hz3:Blk w3 _ _ _:=Blk.keep hz2 k3;have b3:=Below.trans b2 (Below.mono k3 b2.size))
    |(go_at_call 223;refine gv HTe fun w4 k4=> ?_;have hz4:Blk w4 _ _ _:=Blk.keep hz3 k4;have b4:=Below.trans b3 (Below.mono k4 b3.size);have hst:=cg (l:=G) hz4 (by rw[hlG];rfl)))
   all_goals
    go_wp2;refine bodyPost_ret (v:= .agg (Bs G)) ?_ rfl ⟨rfl,below_setRow b4 nR _⟩;exact rr lV rfl rfl (hz4.row _) hsG
end Go.Proofs.YtclpbaokadfhhaaGreatDoor
