import Derived.Test.YtclpbaokadfhhaaGreatDoorZt
import Derived.Test.YtclpbaokadfhhaaGreatDoorZl
set_option maxRecDepth 100000
set_option maxHeartbeats 8000000
namespace Go.Proofs.YtclpbaokadfhhaaGreatDoor
open Go.RowKit
namespace Cc
theorem putL_at(l:List UInt8)(off:Nat)(x:BitVec 64)(k j:Nat)(h:off+k≤l.length):(yw l off x k).getD j 0=if off≤j∧j<off+k then Ac x (j - off)else l.getD j 0:=by
 induction k with
 |zero=>rw[yw,if_neg (by omega)]
 |succ k ih=>
  rw[yw];by_cases e:off+k=j
  ·subst e;rw[dh _ _ _ _ (by rw[xJ];omega),if_pos (by omega),show off+k - off=k by omega]
  ·rw[cL _ _ _ _ _ e,ih (by omega)];by_cases h1:off≤j∧j<off+k
   ·rw[if_pos h1,if_pos (by omega)]
   ·rw[if_neg h1,if_neg (by omega)]
theorem byteL_lo(x:BitVec 64)(j:Nat):Ac x j=UInt8.ofNat (x.toNat/256^j%256):=by
 unfold Ac;rw[BitVec.toNat_ushiftRight,Nat.shiftRight_eq_div_pow,Nat.pow_mul,show (2:Nat)^8=256 by decide];apply UInt8.toNat_inj.1
 rw[UInt8.toNat_ofNat',UInt8.toNat_ofNat'];omega
end Cc
namespace Po
theorem Bh{f g:Nat→Nat}: ∀k,(∀i,i<k→f i=g i)→yZ f k=yZ g k
 |0,_=>rfl
 |k+1,h=>by rw[yZ,yZ,Bh k (fun i hi=>h i (by omega)),h k (by omega)]
theorem eTo_congr(l:List Nat){s t:Nat→Nat}: ∀k,(∀i,i<k→s i=t i)→eTo l s k=eTo l t k
 |0,_=>rfl
 |k+1,h=>by rw[eTo,eTo,eTo_congr l k (fun i hi=>h i (by omega)),h k (by omega)]
end Po
theorem rW(M:List UInt8)(hM:M.length=64)(i:Nat)(hi:i<32):(((⟨M.toArray⟩:ByteArray).extract 0 32).data.toList.getD i 0)=M.getD i 0:=by
 have hs:(⟨M.toArray⟩:ByteArray).size=64:=by show M.toArray.size=64;rw[List.size_toArray,hM]
 have h1:i<((⟨M.toArray⟩:ByteArray).extract 0 32).size:=by rw[ByteArray.size_extract,hs];omega
 rw[←bM _ _ h1];have h2:=bM (⟨M.toArray⟩:ByteArray) i (by omega);rw[show (⟨M.toArray⟩:ByteArray).data.toList=M from rfl]at h2;rw[←h2];simp[ByteArray.getElem_eq_getElem_data]
def dD:Prop:= ∀(f:Nat→UInt8) (s:ByteArray),s.size%16=0→s.size≤900000→Po.tagged (fun i=>(f i).toNat) (fun j i=>byN s (16*j+i)) (s.size/16)=Cc.tag f s
theorem jT(n:Nat)(h:n≤1000000):Fd.lo n 8=Cc.zq n:=by
 apply List.ext_getElem?
 intro j;by_cases h8:j<8
 ·have h1:j<(Fd.lo n 8).length:=by rw[Fd.tV];omega
  have h2:j<(Cc.zq n).length:=by rw[Cc.yx];omega
  have e:(Fd.lo n 8).getD j 0=(Cc.zq n).getD j 0:=by
   unfold Cc.zq;rw[Cc.lo_at _ _ _ h8,Cc.putL_at _ _ _ _ _ (by show 0+8≤8;omega),if_pos (by omega),Nat.sub_zero,Cc.byteL_lo,BitVec.toNat_ofNat,show n%2^64=n from Nat.mod_eq_of_lt (by omega)]
  rw[List.getD_eq_getElem?_getD,List.getD_eq_getElem?_getD,List.getElem?_eq_getElem h1,List.getElem?_eq_getElem h2]at e;rw[List.getElem?_eq_getElem h1,List.getElem?_eq_getElem h2];exact congrArg some e
 ·rw[List.getElem?_eq_none (by rw[Fd.tV];omega),List.getElem?_eq_none (by rw[Cc.yx];omega)]
theorem lU{f g:Nat→Nat}(h: ∀i,i<32→f i=g i)(D:Nat→Nat→Nat)(n:Nat):Po.tagged f D n=Po.tagged g D n:=by
 unfold Po.tagged Po.xm;have e1:Po.yZ (Po.rAt f) 16=Po.yZ (Po.rAt g) 16:=Po.Bh 16 (fun i hi=>by unfold Po.rAt;rw[h i (by omega)]);rw[e1,Po.eTo_congr _ 16 (fun i hi=>h (16+i) (by omega))]
theorem pP(HTS:dD)(key BJ BK closed:ByteArray)(w:World)(hk:key.size=32)(hn:BJ.size=12)(ht:BK.size≤100000)(hc:closed.size≤100000):
  Rw 150 #[.string key,.string BJ,.string BK,.string closed] w (.string (Cc.uW key BJ BK closed)):=by
 have HBl:Hid (Rv 196 #[.string key,.int .i64 0,.string BJ] (.string ⟨(Cc.blk key 0 BJ).toArray⟩)):=fun wx=>lz key BJ 0 wx hk hn (by omega)
 have HP1:Hid (Rv 198 #[.string BK] (.string (Cc.fill BK))):=fun wx=>(j9 BK wx (by omega)).mono fun e w' ⟨h1,h2⟩=>⟨h1,by rw[h2];exact Below.refl _ _⟩
 have HP2:Hid (Rv 198 #[.string closed] (.string (Cc.fill closed))):=fun wx=>(j9 closed wx (by omega)).mono fun e w' ⟨h1,h2⟩=>⟨h1,by rw[h2];exact Below.refl _ _⟩
 have HB1:Hid (Rv 75 #[.int .i64 BK.size,.int .i64 8] (.string (Cc.ug BK))):=fun wx=>by
  have:=bP BK.size 8 BK.size 8 rfl rfl (by omega) (by omega) wx;rw[jT _ (by omega)]at this;exact this
 have HB2:Hid (Rv 75 #[.int .i64 closed.size,.int .i64 8] (.string (Cc.ug closed))):=fun wx=>by
  have:=bP closed.size 8 closed.size 8 rfl rfl (by omega) (by omega) wx;rw[jT _ (by omega)]at this;exact this
 have hlM:(Cc.blk key 0 BJ).length=64:=Cc.xf _ _ _;have hTG:=Cc.zp BK closed;have hTZ:=Cc.ze BK closed;have HTg:Hid (Rv 197 #[.string ((⟨(Cc.blk key 0 BJ).toArray⟩:ByteArray).extract 0 32),.string (Cc.fill BK++Cc.fill closed++Cc.ug BK++Cc.ug closed)] (.string (Cc.uW key BJ BK closed))):=fun wx=>by
  have h:=pl ((⟨(Cc.blk key 0 BJ).toArray⟩:ByteArray).extract 0 32) (Cc.tagged BK closed) ((Cc.tagged BK closed).size/16) wx (by rw[ByteArray.size_extract];show min 32 (Cc.blk key 0 BJ).toArray.size - 0=32;rw[List.size_toArray,hlM];rfl) (by omega) (by omega);rw[lU (g:=fun i=>((fun i=>(Cc.blk key 0 BJ).getD i 0) i).toNat) (fun i hi=>by
   exact congrArg UInt8.toNat (rW _ hlM i hi)),HTS (fun i=>(Cc.blk key 0 BJ).getD i 0) (Cc.tagged BK closed) hTG (by omega)]at h
  exact h
 have sz1:=Cc.xF BK;have sz2:=Cc.xF closed;have sz3:=Cc.xe BK;have sz4:=Cc.xe closed;have fb1:Cc.t6 BK.size≤15:=by unfold Cc.t6;omega
 have fb2:Cc.t6 closed.size≤15:=by unfold Cc.t6;omega
 generalize Cc.fill BK=A at HP1 HTg sz1;generalize Cc.fill closed=B at HP2 HTg sz2;generalize Cc.ug BK=C at HB1 HTg sz3;generalize Cc.ug closed=D at HB2 HTg sz4;have ad1:=aH A B (by omega);have ad2:=aH (A++B) C (by rw[ByteArray.size_append];omega);have ad3:=aH (A++B++C) D (by rw[ByteArray.size_append,ByteArray.size_append];omega);generalize A++B++C++D=ABCD at ad3 HTg;generalize A++B++C=ABC at ad2 ad3;generalize A++B=AB at ad1 ad2;have hM:(⟨(Cc.blk key 0 BJ).toArray⟩:ByteArray).size=64:=by show(Cc.blk key 0 BJ).toArray.size=64;rw[List.size_toArray,hlM]
 generalize (⟨(Cc.blk key 0 BJ).toArray⟩:ByteArray)=M at HBl HTg hM;generalize Cc.uW key BJ BK closed=R at HTg⊢;clear sz1 sz2 sz3 sz4 fb1 fb2 hTG hTZ hlM;go_enter Tryz.func150,Tryz.ntmps150;go_wp2_with fail;refine gv HBl fun w1 k1=> ?_
 have hX:WD w w.heap.size [] w1:=WD.start.keep k1;clear k1;have hsl: ∀wx,(Instr.sliceAt 9 (.string M) none (some (.int .i64 32)) none).run Tryz.prog wx= .ok (.string (M.extract 0 32)) wx:=fun wx=>by go_simp
 generalize M.extract 0 32=K3 at hsl HTg;go_wp2_with fail;refine ai (S:=WD w (w.heap.size) []) (ls:= []) (by kernel_rfl) ?_;have hX0:WD w (w.heap.size) [] w1.drew:=hX.drew;clear hX;generalize World.drew w1=rd at hX0⊢;refine aa 0 13 (v:= .string M) hX0 ?_ ?_
 ·exact fun wx _=>rfl
 refine ac 1 14 hX0 ?_;refine aa 2 15 (v:= .string BK) hX0 ?_ ?_
 ·exact fun wx _=>rfl
 simp only[qQ];refine aa 4 17 (v:= .string closed) hX0 ?_ ?_
 ·exact fun wx _=>rfl
 refine aa 7 20 (v:= .string BK) hX0 ?_ ?_
 ·exact fun wx _=>rfl
 refine ac 8 21 hX0 ?_;simp only[qQ];refine aa 11 24 (v:= .string closed) hX0 ?_ ?_
 ·exact fun wx _=>rfl
 refine ac 12 25 hX0 ?_;try simp only[qQ]
 change al _ _ _ _ _ _ 9 #[true,true,true,false,true,false,false,true,true,false,false,true,true,false,false,false,false] _ _;refine aq (R:=fun d u w'=>(d 3=true→u 16= .string A)∧(d 5=true→u 18= .string B)∧(d 6=true→u 19= .string AB)∧(d 9=true→u 22= .string C)∧(d 10=true→u 23= .string ABC)∧(d 13=true→u 26= .string D)∧(d 14=true→u 27= .string ABCD)∧(d 15=true→u 28= .string R)∧(d 16=true→u 8= .string R)∧WD w (w.heap.size) [] w') [16,18,19,22,23,26,27,28,8] [3,5,6,9,10,13,14,15,16] #[true,true,true,true,true,true,true,true,true,true,true,true,true,true,true,true,true] (by kernel_rfl) (by kernel_rfl) (by kernel_rfl) ⟨fun h=>Bool.noConfusion h,fun h=>Bool.noConfusion h,fun h=>Bool.noConfusion h,fun h=>Bool.noConfusion h,fun h=>Bool.noConfusion h,fun h=>Bool.noConfusion h,fun h=>Bool.noConfusion h,fun h=>Bool.noConfusion h,fun h=>Bool.noConfusion h,hX0⟩ ?stepsr ?finr;case stepsr=>
  refine StepsU.cons rfl ?sr3 (StepsU.cons rfl ?sr5 (StepsU.cons rfl ?sr6 (StepsU.cons rfl ?sr9 (StepsU.cons rfl ?sr10 (StepsU.cons rfl ?sr13 (StepsU.cons rfl ?sr14 (StepsU.cons rfl ?sr15 (StepsU.cons rfl ?sr16 StepsU.nil))))))));case sr3=>
   rintro d u wx ⟨h3,h5,h6,h9,h10,h13,h14,h15,h16,hX⟩ hd K hK;simp only[ae,qF,qQ];go_simp;go_wp2_with (go_at_call 198;refine gv HP1 fun x0 k0=> ?_);refine hK.out (upV u 16 (.string A)) _ (hX.keep k0) ⟨fun _=>rfl,fun h=>h5 h,fun h=>h6 h,fun h=>h9 h,fun h=>h10 h,fun h=>h13 h,fun h=>h14 h,fun h=>h15 h,fun h=>h16 h,hX.keep k0⟩ _ ?_;simp only[ae,qF,qQ,upV,reduceIte,Nat.reduceEqDiff]
  case sr5=>
   rintro d u wx ⟨h3,h5,h6,h9,h10,h13,h14,h15,h16,hX⟩ hd K hK;simp only[ae,qF,qQ];go_simp;go_wp2_with (go_at_call 198;refine gv HP2 fun x0 k0=> ?_);refine hK.out (upV u 18 (.string B)) _ (hX.keep k0) ⟨fun h=>h3 h,fun _=>rfl,fun h=>h6 h,fun h=>h9 h,fun h=>h10 h,fun h=>h13 h,fun h=>h14 h,fun h=>h15 h,fun h=>h16 h,hX.keep k0⟩ _ ?_;simp only[ae,qF,qQ,upV,reduceIte,Nat.reduceEqDiff]
  case sr6=>
   rintro d u wx ⟨h3,h5,h6,h9,h10,h13,h14,h15,h16,hX⟩ hd K hK;have e3:=h3 (hd 3 (by kernel_rfl));have e5:=h5 (hd 5 (by kernel_rfl));simp only[ae,qF,qQ,e3,e5];go_simp;refine hK.out (upV u 19 (.string AB)) _ hX ⟨fun h=>h3 h,fun h=>h5 h,fun _=>rfl,fun h=>h9 h,fun h=>h10 h,fun h=>h13 h,fun h=>h14 h,fun h=>h15 h,fun h=>h16 h,hX⟩ _ ?_;simp only[ae,qF,qQ,upV,reduceIte,Nat.reduceEqDiff,e3,e5]
  case sr9=>
   rintro d u wx ⟨h3,h5,h6,h9,h10,h13,h14,h15,h16,hX⟩ hd K hK;simp only[ae,qF,qQ];go_simp;go_wp2_with (go_at_call 75;refine gv HB1 fun x0 k0=> ?_);refine hK.out (upV u 22 (.string C)) _ (hX.keep k0) ⟨fun h=>h3 h,fun h=>h5 h,fun h=>h6 h,fun _=>rfl,fun h=>h10 h,fun h=>h13 h,fun h=>h14 h,fun h=>h15 h,fun h=>h16 h,hX.keep k0⟩ _ ?_;simp only[ae,qF,qQ,upV,reduceIte,Nat.reduceEqDiff]
  case sr10=>
   rintro d u wx ⟨h3,h5,h6,h9,h10,h13,h14,h15,h16,hX⟩ hd K hK;have e6:=h6 (hd 6 (by kernel_rfl));have e9:=h9 (hd 9 (by kernel_rfl));simp only[ae,qF,qQ,e6,e9];go_simp;refine hK.out (upV u 23 (.string ABC)) _ hX ⟨fun h=>h3 h,fun h=>h5 h,fun h=>h6 h,fun h=>h9 h,fun _=>rfl,fun h=>h13 h,fun h=>h14 h,fun h=>h15 h,fun h=>h16 h,hX⟩ _ ?_;simp only[ae,qF,qQ,upV,reduceIte,Nat.reduceEqDiff,e6,e9]
  case sr13=>
   rintro d u wx ⟨h3,h5,h6,h9,h10,h13,h14,h15,h16,hX⟩ hd K hK;simp only[ae,qF,qQ];go_simp;go_wp2_with (go_at_call 75;refine gv HB2 fun x0 k0=> ?_);refine hK.out (upV u 26 (.string D)) _ (hX.keep k0) ⟨fun h=>h3 h,fun h=>h5 h,fun h=>h6 h,fun h=>h9 h,fun h=>h10 h,fun _=>rfl,fun h=>h14 h,fun h=>h15 h,fun h=>h16 h,hX.keep k0⟩ _ ?_;simp only[ae,qF,qQ,upV,reduceIte,Nat.reduceEqDiff]
  case sr14=>
   rintro d u wx ⟨h3,h5,h6,h9,h10,h13,h14,h15,h16,hX⟩ hd K hK;have e10:=h10 (hd 10 (by kernel_rfl));have e13:=h13 (hd 13 (by kernel_rfl));simp only[ae,qF,qQ,e10,e13];go_simp;refine hK.out (upV u 27 (.string ABCD)) _ hX ⟨fun h=>h3 h,fun h=>h5 h,fun h=>h6 h,fun h=>h9 h,fun h=>h10 h,fun h=>h13 h,fun _=>rfl,fun h=>h15 h,fun h=>h16 h,hX⟩ _ ?_;simp only[ae,qF,qQ,upV,reduceIte,Nat.reduceEqDiff,e10,e13]
  case sr15=>
   rintro d u wx ⟨h3,h5,h6,h9,h10,h13,h14,h15,h16,hX⟩ hd K hK;have e14:=h14 (hd 14 (by kernel_rfl));simp only[ae,qF,qQ,e14];go_simp;go_wp2_with (go_at_call 197;refine gv HTg fun x0 k0=> ?_);refine hK.out (upV u 28 (.string R)) _ (hX.keep k0) ⟨fun h=>h3 h,fun h=>h5 h,fun h=>h6 h,fun h=>h9 h,fun h=>h10 h,fun h=>h13 h,fun h=>h14 h,fun _=>rfl,fun h=>h16 h,hX.keep k0⟩ _ ?_;simp only[ae,qF,qQ,upV,reduceIte,Nat.reduceEqDiff,e14]
  case sr16=>
   rintro d u wx ⟨h3,h5,h6,h9,h10,h13,h14,h15,h16,hX⟩ hd K hK;have e15:=h15 (hd 15 (by kernel_rfl));simp only[ae,qF,qQ,e15];go_simp;refine hK.out (upV u 8 (.string R)) _ hX ⟨fun h=>h3 h,fun h=>h5 h,fun h=>h6 h,fun h=>h9 h,fun h=>h10 h,fun h=>h13 h,fun h=>h14 h,fun h=>h15 h,fun _=>rfl,hX⟩ _ ?_;simp only[ae,qF,qQ,upV,reduceIte,Nat.reduceEqDiff,e15]
 case finr=>
  rintro n' d u rx ⟨h3,h5,h6,h9,h10,h13,h14,h15,h16,hX⟩ hd;have e16:=h3 (hd 3 rfl);have e18:=h5 (hd 5 rfl);have e19:=h6 (hd 6 rfl);have e22:=h9 (hd 9 rfl);have e23:=h10 (hd 10 rfl);have e26:=h13 (hd 13 rfl);have e27:=h14 (hd 14 rfl);have e28:=h15 (hd 15 rfl);have e8:=h16 (hd 16 rfl);simp only[ae,qF,qQ,e16,e18,e19,e22,e23,e26,e27,e28,e8];clear hd h3 h5 h6 h9 h10 h13 h14 h15 h16 e16 e18 e19 e22 e23 e26 e27 e28 e8;change al _ _ _ _ _ _ (n'+0) _ _ _;refine ak ?_;have Ct:=hX.below;go_wp2;go_ret;exact⟨rfl,Ct⟩
theorem str_ne{a b:ByteArray}(h: ¬a=b):(a.toList==b.toList)=false:=by
 cases hc:a.toList==b.toList with
 |false=>rfl
 |true=>
  have h1:=eq_of_beq hc;rw[ByteArray.toList_eq,ByteArray.toList_eq]at h1;exact absurd (ix h1) h
theorem qU(HTS:dD)(key BJ BK data:ByteArray)(w:World):
  Rw 95 #[.string key,.string BJ,.string BK,.string data] w (.tuple #[.string (Cc.uk key BJ BK data).1,.int .i64 (Cc.uk key BJ BK data).2]):=by
 by_cases h:key.size=32∧BJ.size=12∧BK.size≤12000∧data.size≤12000
 ·have e1:Cc.uk key BJ BK data=(Cc.wA key BJ BK data,0):=by unfold Cc.uk;rw[if_pos h]
  rw[e1];obtain⟨h1,h2,h3,h4⟩:=h;have HX:Hid (Rv 149 #[.string key,.string BJ,.string data] (.string (Cc.ue key BJ data))):=fun wx=>lv key BJ data wx h1 h2 (by omega)
  have sT:=Cc.zs key BJ data;have HG:Hid (Rv 150 #[.string key,.string BJ,.string BK,.string (Cc.ue key BJ data)] (.string (Cc.uW key BJ BK (Cc.ue key BJ data)))):=fun wx=>pP HTS key BJ BK _ wx h1 h2 (by omega) (by omega)
  have sS:=Cc.yl key BJ BK (Cc.ue key BJ data);have HC:Hid (Cc.wA key BJ BK data=Cc.ue key BJ data++Cc.uW key BJ BK (Cc.ue key BJ data)):=rfl;generalize Cc.wA key BJ BK data=R at HC⊢;generalize Cc.uW key BJ BK (Cc.ue key BJ data)=Z at HG sS HC;generalize Cc.ue key BJ data=Y at HX HG sT HC;have ad:=aH Y Z (by omega);rw[←HC.out]at ad;clear e1;have fa1:((key.size:Int) !=32)=false:=by rw[bne_eq_false_iff_eq];omega
  have fa2:(key.size:Int)=32:=by omega
  have fb1:((BJ.size:Int) !=12)=false:=by rw[bne_eq_false_iff_eq];omega
  have fb2:(BJ.size:Int)=12:=by omega
  have fc1:decide ((BK.size:Int)>12000)=false:=decide_eq_false (by omega);have fc2:decide ((12000:Int)<(BK.size:Int))=false:=decide_eq_false (by omega);have fc3:decide (12000<BK.size)=false:=decide_eq_false (by omega);have fc4: ¬12000<BK.size:=by omega
  have fd1:decide ((data.size:Int)>12000)=false:=decide_eq_false (by omega);have fd2:decide ((12000:Int)<(data.size:Int))=false:=decide_eq_false (by omega);have fd3:decide (12000<data.size)=false:=decide_eq_false (by omega);have fd4: ¬12000<data.size:=by omega
  go_enter Tryz.func95,Tryz.ntmps95;go_wp2_with fail;refine gv HX fun w1 k1=> ?_
  go_wp2_with fail;refine gv HG fun w2 k2=> ?_
  go_wp2;go_ret2;exact⟨rfl,k1.trans (k2.mono k1.size)⟩
 ·have e1:Cc.uk key BJ BK data=(⟨#[]⟩,1):=by unfold Cc.uk;rw[if_neg h]
  rw[e1];clear e1;by_cases h1:key.size=32
  ·by_cases h2:BJ.size=12
   ·by_cases h3:BK.size≤12000
    ·have h4: ¬data.size≤12000:=fun h4=>h ⟨h1,h2,h3,h4⟩
     replace h:Hid True:=trivial;have fa1:((key.size:Int) !=32)=false:=by rw[bne_eq_false_iff_eq];omega
     have fa2:(key.size:Int)=32:=by omega
     have fb1:((BJ.size:Int) !=12)=false:=by rw[bne_eq_false_iff_eq];omega
     have fb2:(BJ.size:Int)=12:=by omega
     have fc1:decide ((BK.size:Int)>12000)=false:=decide_eq_false (by omega);have fc2:decide ((12000:Int)<(BK.size:Int))=false:=decide_eq_false (by omega);have fc3:decide (12000<BK.size)=false:=decide_eq_false (by omega);have fc4: ¬12000<BK.size:=by omega
     have fd1:decide ((data.size:Int)>12000)=true:=decide_eq_true (by omega);have fd2:decide ((12000:Int)<(data.size:Int))=true:=decide_eq_true (by omega);have fd3:decide (12000<data.size)=true:=decide_eq_true (by omega);have fd4:12000<data.size:=by omega
     go_enter Tryz.func95,Tryz.ntmps95;go_wp2;go_ret2;exact⟨rfl,Below.refl _ _⟩
    ·replace h:Hid True:=trivial;have fa1:((key.size:Int) !=32)=false:=by rw[bne_eq_false_iff_eq];omega
     have fa2:(key.size:Int)=32:=by omega
     have fb1:((BJ.size:Int) !=12)=false:=by rw[bne_eq_false_iff_eq];omega
     have fb2:(BJ.size:Int)=12:=by omega
     have fc1:decide ((BK.size:Int)>12000)=true:=decide_eq_true (by omega);have fc2:decide ((12000:Int)<(BK.size:Int))=true:=decide_eq_true (by omega);have fc3:decide (12000<BK.size)=true:=decide_eq_true (by omega);have fc4:12000<BK.size:=by omega
     go_enter Tryz.func95,Tryz.ntmps95;go_wp2;go_ret2;exact⟨rfl,Below.refl _ _⟩
   ·replace h:Hid True:=trivial;have fa1:((key.size:Int) !=32)=false:=by rw[bne_eq_false_iff_eq];omega
    have fa2:(key.size:Int)=32:=by omega
    have fb1:((BJ.size:Int) !=12)=true:=by rw[bne_iff_ne];omega
    have fb2: ¬(BJ.size:Int)=12:=by omega
    go_enter Tryz.func95,Tryz.ntmps95;go_wp2;go_ret2;exact⟨rfl,Below.refl _ _⟩
  ·replace h:Hid True:=trivial;have fa1:((key.size:Int) !=32)=true:=by rw[bne_iff_ne];omega
   have fa2: ¬(key.size:Int)=32:=by omega
   go_enter Tryz.func95,Tryz.ntmps95;go_wp2;go_ret2;exact⟨rfl,Below.refl _ _⟩
theorem nY(HTS:dD)(key BJ BK closed:ByteArray)(w:World)(hcs:closed.size≤140737488351232):
  Rw 97 #[.string key,.string BJ,.string BK,.string closed] w (.tuple #[.string (Cc.t7 key BJ BK closed).1,.int .i64 (Cc.t7 key BJ BK closed).2]):=by
 by_cases h:key.size=32∧BJ.size=12∧BK.size≤12000∧16≤closed.size∧closed.size≤12016
 ·have e1:Cc.t7 key BJ BK closed=if Cc.vk key BJ BK closed then(Cc.ue key BJ (Cc.ww closed),0)else (⟨#[]⟩,3):=by unfold Cc.t7;rw[if_pos h]
  rw[e1];obtain⟨h1,h2,h3,h4,h5⟩:=h;have sB:=Cc.zO closed;have HX:Hid (Rv 149 #[.string key,.string BJ,.string (Cc.ww closed)] (.string (Cc.ue key BJ (Cc.ww closed)))):=fun wx=>lv key BJ _ wx h1 h2 (by omega)
  have HG:Hid (Rv 150 #[.string key,.string BJ,.string BK,.string (Cc.ww closed)] (.string (Cc.uW key BJ BK (Cc.ww closed)))):=fun wx=>pP HTS key BJ BK _ wx h1 h2 (by omega) (by omega)
  have HR:Hid (Cc.vk key BJ BK closed=decide (Cc.AF closed=Cc.uW key BJ BK (Cc.ww closed))):=rfl;have hbd:Cc.ww closed=closed.extract 0 (closed.size - 16):=rfl;have htl:Cc.AF closed=closed.extract (closed.size - 16) closed.size:=rfl;generalize Cc.vk key BJ BK closed=ir at HR;generalize Cc.uW key BJ BK (Cc.ww closed)=Z at HG HR;generalize Cc.ue key BJ (Cc.ww closed)=Y at HX;generalize Cc.AF closed=TL at HR htl;generalize Cc.ww closed=BD at HX HG hbd;generalize hm:closed.size - 16=m at hbd htl;have hwn:IntKind.i64.wrap ((closed.size:Int) - 16)=(m:Int):=by rw[IntKind.wrap_i64];omega
  have hwn2:(closed.size:Int) - 16=(m:Int):=by omega
  have n0:decide ((m:Int)<0)=false:=decide_eq_false (by omega);have n1:decide ((m:Int)>12000)=false:=decide_eq_false (by omega);have n2:decide ((12000:Int)<(m:Int))=false:=decide_eq_false (by omega);have n3:decide (12000<m)=false:=decide_eq_false (by omega);have n4: ¬12000<m:=by omega
  have m1:(m:Int)≤(closed.size:Int):=by omega
  have m2:m≤closed.size:=by omega
  replace hm:Hid (closed.size - 16=m):=hm;replace htl:closed.extract m closed.size=TL:=htl.symm;replace hbd:closed.extract 0 m=BD:=hbd.symm;clear e1;have fa1:((key.size:Int) !=32)=false:=by rw[bne_eq_false_iff_eq];omega
  have fa2:(key.size:Int)=32:=by omega
  have fb1:((BJ.size:Int) !=12)=false:=by rw[bne_eq_false_iff_eq];omega
  have fb2:(BJ.size:Int)=12:=by omega
  have fc1:decide ((BK.size:Int)>12000)=false:=decide_eq_false (by omega);have fc2:decide ((12000:Int)<(BK.size:Int))=false:=decide_eq_false (by omega);have fc3:decide (12000<BK.size)=false:=decide_eq_false (by omega);have fc4: ¬12000<BK.size:=by omega
  by_cases hr:TL=Z
  ·have e2:ir=true:=by rw[HR.out];exact decide_eq_true hr
   subst hr;rw[e2,if_pos rfl];clear e2 HR;go_enter Tryz.func97,Tryz.ntmps97;go_wp2_with fail;refine gv HG fun w1 k1=> ?_
   go_wp2_with fail;refine gv HX fun w2 k2=> ?_
   go_wp2;go_ret2;exact⟨rfl,k1.trans (k2.mono k1.size)⟩
  ·have e2:ir=false:=by rw[HR.out];exact decide_eq_false hr
   rw[e2,if_neg (by decide)];have hn:=str_ne (fun h:Z=TL=>hr h.symm);have hn2:=str_ne hr;replace hr:Hid (¬TL=Z):=hr;clear e2 HR;go_enter Tryz.func97,Tryz.ntmps97;go_wp2_with fail;refine gv HG fun w1 k1=> ?_
   go_wp2;go_ret2;exact⟨rfl,k1⟩
 ·have e1:Cc.t7 key BJ BK closed=(⟨#[]⟩,1):=by unfold Cc.t7;rw[if_neg h]
  rw[e1];clear e1;have hwn:IntKind.i64.wrap ((closed.size:Int) - 16)=(closed.size:Int) - 16:=by rw[IntKind.wrap_i64];omega
  by_cases h1:key.size=32
  ·by_cases h2:BJ.size=12
   ·by_cases h3:BK.size≤12000
    ·by_cases h4:16≤closed.size
     ·have h5: ¬closed.size≤12016:=fun h5=>h ⟨h1,h2,h3,h4,h5⟩
      replace h:Hid True:=trivial;have fa1:((key.size:Int) !=32)=false:=by rw[bne_eq_false_iff_eq];omega
      have fa2:(key.size:Int)=32:=by omega
      have fb1:((BJ.size:Int) !=12)=false:=by rw[bne_eq_false_iff_eq];omega
      have fb2:(BJ.size:Int)=12:=by omega
      have fc1:decide ((BK.size:Int)>12000)=false:=decide_eq_false (by omega);have fc2:decide ((12000:Int)<(BK.size:Int))=false:=decide_eq_false (by omega);have fc3:decide (12000<BK.size)=false:=decide_eq_false (by omega);have fc4: ¬12000<BK.size:=by omega
      have n0:decide ((closed.size:Int) - 16<0)=false:=decide_eq_false (by omega);have n1:decide ((closed.size:Int) - 16>12000)=true:=decide_eq_true (by omega);have n2:decide ((12000:Int)<(closed.size:Int) - 16)=true:=decide_eq_true (by omega);have n5:(12000:Int)<(closed.size:Int) - 16:=by omega
      have n6: ¬(closed.size:Int) - 16<0:=by omega
      go_enter Tryz.func97,Tryz.ntmps97;go_wp2;go_ret2;exact⟨rfl,Below.refl _ _⟩
     ·replace h:Hid True:=trivial;have fa1:((key.size:Int) !=32)=false:=by rw[bne_eq_false_iff_eq];omega
      have fa2:(key.size:Int)=32:=by omega
      have fb1:((BJ.size:Int) !=12)=false:=by rw[bne_eq_false_iff_eq];omega
      have fb2:(BJ.size:Int)=12:=by omega
      have fc1:decide ((BK.size:Int)>12000)=false:=decide_eq_false (by omega);have fc2:decide ((12000:Int)<(BK.size:Int))=false:=decide_eq_false (by omega);have fc3:decide (12000<BK.size)=false:=decide_eq_false (by omega);have fc4: ¬12000<BK.size:=by omega
      have n0:decide ((closed.size:Int) - 16<0)=true:=decide_eq_true (by omega);have n6:(closed.size:Int) - 16<0:=by omega
      go_enter Tryz.func97,Tryz.ntmps97;go_wp2;go_ret2;exact⟨rfl,Below.refl _ _⟩
    ·replace h:Hid True:=trivial;have fa1:((key.size:Int) !=32)=false:=by rw[bne_eq_false_iff_eq];omega
     have fa2:(key.size:Int)=32:=by omega
     have fb1:((BJ.size:Int) !=12)=false:=by rw[bne_eq_false_iff_eq];omega
     have fb2:(BJ.size:Int)=12:=by omega
     have fc1:decide ((BK.size:Int)>12000)=true:=decide_eq_true (by omega);have fc2:decide ((12000:Int)<(BK.size:Int))=true:=decide_eq_true (by omega);have fc3:decide (12000<BK.size)=true:=decide_eq_true (by omega);have fc4:12000<BK.size:=by omega
     go_enter Tryz.func97,Tryz.ntmps97;go_wp2;go_ret2;exact⟨rfl,Below.refl _ _⟩
   ·replace h:Hid True:=trivial;have fa1:((key.size:Int) !=32)=false:=by rw[bne_eq_false_iff_eq];omega
    have fa2:(key.size:Int)=32:=by omega
    have fb1:((BJ.size:Int) !=12)=true:=by rw[bne_iff_ne];omega
    have fb2: ¬(BJ.size:Int)=12:=by omega
    go_enter Tryz.func97,Tryz.ntmps97;go_wp2;go_ret2;exact⟨rfl,Below.refl _ _⟩
  ·replace h:Hid True:=trivial;have fa1:((key.size:Int) !=32)=true:=by rw[bne_iff_ne];omega
   have fa2: ¬(key.size:Int)=32:=by omega
   go_enter Tryz.func97,Tryz.ntmps97;go_wp2;go_ret2;exact⟨rfl,Below.refl _ _⟩
theorem kO(key BJ BK data:ByteArray):(Cc.uk key BJ BK data).1.size≤1000000:=by
 unfold Cc.uk;split
 ·rename_i h
  rw[show ((Cc.wA key BJ BK data,(0:Int)):ByteArray×Int).1.size=data.size+16 from Cc.A6 _ _ _ _];omega
 ·show(⟨#[]⟩:ByteArray).size≤_
  decide
theorem pC(HTS:dD)(o:OpV)(ho:o.Ok)(q:Nat)(w1 wx:World)(hq:0<q)(hk:o.k=4∨o.k=5)(hI:Inv q w1 wx):
  Calls Tryz.prog 42 #[.pointer (some ⟨q,0,none⟩),.agg o.cs] wx fun e w'=>e= .returned (.bool true)∧Inv q w1 w':=by
 obtain⟨⟨v,v1,v2,v3,v4⟩,hbut,hT⟩:=hI;have hqs:q<wx.heap.size:=v4.lt;have hS:(fun y=>Blk y q v.cs 43∧Blk y wx.heap.size o.cs 45∧But q w1 y∧Tab Sha.K y) (wx.alloc (.cells o.cs 45)):=⟨v4.alloc _,Blk.new _ _ _,hbut.alloc (by omega) _,hT.below (bR.alloc nR _)⟩;have HCa:Hid (∀wy:World,Rw 94 #[.string o.a,.string o.b,.string o.c,.string o.d] wy (.tuple #[.string (Cc.uk o.a o.b o.c o.d).1,.int .i64 (Cc.uk o.a o.b o.c o.d).2])):=fun wy=>oe o.a o.b o.c o.d wy ho.a ho.b ho.c ho.d
 have HCb:Hid (∀wy:World,Rw 95 #[.string o.a,.string o.b,.string o.c,.string o.d] wy (.tuple #[.string (Cc.uk o.a o.b o.c o.d).1,.int .i64 (Cc.uk o.a o.b o.c o.d).2])):=fun wy=>qU HTS o.a o.b o.c o.d wy
 have sX:=kO o.a o.b o.c o.d;generalize (Cc.uk o.a o.b o.c o.d).1=X at HCa HCb sX;generalize (Cc.uk o.a o.b o.c o.d).2=Y at HCa HCb;have hcz:(if o.d.size=0 then v.c else o.d).size≤140737488351232:=by split;have:=v1.c;omega;exact ho.d
 have HOr:Hid (∀wy:World,Calls Tryz.prog 96 #[.string o.d,.string v.c] wy fun e w'=>e= .returned (.string (if o.d.size=0 then v.c else o.d))∧w'=wy):=fun wy=>sJ o.d v.c wy
 generalize (if o.d.size=0 then v.c else o.d)=cz at hcz HOr;have HUa:Hid (∀wy:World,Rw 31 #[.string o.a,.string o.b,.string o.c,.string cz] wy (.tuple #[.string (Cc.t7 o.a o.b o.c cz).1,.int .i64 (Cc.t7 o.a o.b o.c cz).2])):=fun wy=>kJ o.a o.b o.c cz wy ho.a ho.b ho.c hcz
 have HUb:Hid (∀wy:World,Rw 97 #[.string o.a,.string o.b,.string o.c,.string cz] wy (.tuple #[.string (Cc.t7 o.a o.b o.c cz).1,.int .i64 (Cc.t7 o.a o.b o.c cz).2])):=fun wy=>nY HTS o.a o.b o.c cz wy hcz
 generalize (Cc.t7 o.a o.b o.c cz).1=X2 at HUa HUb;generalize (Cc.t7 o.a o.b o.c cz).2=Y2 at HUa HUb;have HKEEP:Hid (∀a b:World,(fun y=>Blk y q v.cs 43∧Blk y wx.heap.size o.cs 45∧But q w1 y∧Tab Sha.K y) a→Below a.heap.size a b→(fun y=>Blk y q v.cs 43∧Blk y wx.heap.size o.cs 45∧But q w1 y∧Tab Sha.K y) b):=fun a b h k=>⟨h.1.keep k,h.2.1.keep k,h.2.2.1.keep k (Nat.le_of_lt h.1.lt),h.2.2.2.below k⟩
 obtain⟨c0,c1,c2,c3,c4,c5⟩:=OpV.at hS.2.1;have sO:=o.size;generalize hcs:o.cs=CS at hS c0 c1 c2 c3 c4 c5 sO HKEEP⊢;replace hcs:Hid (o.cs=CS):=hcs;clear v4 hbut hT hcz;rcases hk with hk|hk
 ·rw[hk]at c0;go_enter Tryz.func42,Tryz.ntmps42;go_wp2_with fail;clear c0 c1 c2 c3 c4 c5;generalize wx.alloc (.cells CS 45)=wa at hS⊢;refine(HCa.out _).mono ?_;rintro e wb ⟨rfl,kb⟩;replace hS:=HKEEP.out _ _ hS kb;clear kb;have hO:=hS.2.1;rw[←hcs.out]at hO;obtain⟨c0,c1,c2,c3,c4,c5⟩:=OpV.at hO;clear hO;go_wp2_with fail;clear c0 c1 c2 c3 c4 c5;refine(HCb.out _).mono ?_;rintro e wc ⟨rfl,kc⟩;replace hS:=HKEEP.out _ _ hS kc;clear kc HKEEP;have f0:=hS.1.frozen 0;have cc:=hS.1.cell 0;rw[show v.cs[0]? =some (.string v.c)from rfl]at cc;have h1:Blk (wc.setCell ⟨q,0,none⟩ (.string X)) q ({v with c:=X}:Wv).cs 43:=hS.1.setAt 0 _ rfl;have h2:=hS.2.2.1.set 0 (.string X);have h3:Tab Sha.K (wc.setCell ⟨q,0,none⟩ (.string X)):=hS.2.2.2.but (bR.setCell (p:=⟨q,0,none⟩) nR _) hq;have Cf:Hid (Inv q w1 (wc.setCell ⟨q,0,none⟩ (.string X))):=⟨⟨{v with c:=X},⟨sX,v1.s,v1.l,v1.t⟩,v2,v3,h1⟩,h2,h3⟩;clear h1 h2 h3 hS;go_wp2;go_ret;exact⟨rfl,Cf.out⟩
 ·rw[hk]at c0;go_enter Tryz.func42,Tryz.ntmps42;go_wp2_with fail;clear c0 c1 c2 c3 c4 c5;generalize wx.alloc (.cells CS 45)=wa at hS⊢;rw[←hcs.out]at hS;refine ai (S:=(fun y=>Blk y q v.cs 43∧Blk y wx.heap.size o.cs 45∧But q w1 y∧Tab Sha.K y)) (ls:= []) (by kernel_rfl) ?_;have hSd:(fun y=>Blk y q v.cs 43∧Blk y wx.heap.size o.cs 45∧But q w1 y∧Tab Sha.K y) wa.drew:=⟨hS.1.drew,hS.2.1.drew,hS.2.2.1.drew,hS.2.2.2⟩;clear hS;generalize wa.drew=wd at hSd⊢;have hS:=hSd;clear hSd;refine ac 0 53 hS ?_;refine aa 1 54 (v:= .string o.d) hS ?_ ?_
  ·(intro wx BM;obtain⟨c0,c1,c2,c3,c4,c5⟩:=OpV.at BM.2.1;clear BM;go_simp;try (with_reducible rfl))
  refine ac 2 55 hS ?_;simp only[qQ];refine ac 3 56 hS ?_;refine ac 4 57 hS ?_;refine aa 5 58 (v:= .string v.c) hS ?_ ?_
  ·(intro wx BM;have cc:=BM.1.cell 0;rw[show v.cs[0]? =some (.string v.c)from rfl]at cc;clear BM;go_simp;try (with_reducible rfl))
  simp only[qQ];refine aj 6 fun K hK=> ?_
  go_simp;go_wp2_with (go_at_call 96;refine(HOr.out _).mono ?_;rintro e wf ⟨rfl,hwf⟩);try rw[hwf]
  refine hK.out _ _ hS ?_;try simp only[qQ]
  clear hK K hwf;refine aa 7 9 (v:= .string cz) hS ?_ ?_
  ·exact fun wx _=>rfl
  try simp only[qQ]
  refine ak ?_;obtain⟨c0,c1,c2,c3,c4,c5⟩:=OpV.at hS.2.1;rw[hcs.out]at hS;clear HOr;go_wp2_with fail;clear c0 c1 c2 c3 c4 c5;refine(HUa.out _).mono ?_;rintro e we ⟨rfl,ke⟩;replace hS:=HKEEP.out _ _ hS ke;clear ke;have hO:=hS.2.1;rw[←hcs.out]at hO;obtain⟨c0,c1,c2,c3,c4,c5⟩:=OpV.at hO;clear hO;go_wp2_with fail;clear c0 c1 c2 c3 c4 c5;refine(HUb.out _).mono ?_;rintro e wg ⟨rfl,kg⟩;replace hS:=HKEEP.out _ _ hS kg;clear kg;have Cf:Hid (Inv q w1 wg):=⟨⟨v,v1,v2,v3,hS.1⟩,hS.2.2.1,hS.2.2.2⟩;clear hS;go_wp2;go_ret;exact⟨rfl,Cf.out⟩
theorem mm(HTS:dD)(w:World)(hq:0<w.heap.size)(o:OpV)(ho:o.Ok)(hk:o.k=4∨o.k=5)(w1 wx:World)(hI:Inv w.heap.size w1 wx):
  Calls Tryz.prog 42 #[.pointer (some ⟨w.heap.size,0,none⟩),.agg o.cs] wx fun e w'=>e= .returned (.bool true)∧Inv w.heap.size w1 w':=pC HTS o ho _ w1 wx hq hk hI
end Go.Proofs.YtclpbaokadfhhaaGreatDoor
