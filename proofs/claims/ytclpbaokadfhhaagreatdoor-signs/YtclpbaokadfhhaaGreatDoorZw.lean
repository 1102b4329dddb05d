import Derived.Test.YtclpbaokadfhhaaGreatDoorXr
import Derived.Test.YtclpbaokadfhhaaGreatDoorXl
set_option maxRecDepth 100000
set_option maxHeartbeats 1000000
namespace Go.Proofs.YtclpbaokadfhhaaGreatDoor
open Go.RowKit
def Sha.uN(l:List UInt8)(c:UInt8)(k:Nat):List UInt8:=(l.take k).map (· ^^^c)++l.drop k
theorem Sha.uH(l:List UInt8)(c:UInt8)(k:Nat):(Sha.uN l c k).length=l.length:=by
 simp[Sha.uN];omega
theorem Sha.yz(l:List UInt8)(c:UInt8)(k:Nat)(h:k<l.length):(Sha.uN l c k).getD k 0=l.getD k 0:=by
 have hm:min k l.length=k:=by omega
 simp[Sha.uN,List.getD,List.getElem?_append,hm]
theorem Sha.xS(l:List UInt8)(c:UInt8)(k:Nat)(h:k<l.length):(Sha.uN l c k).set k (l.getD k 0^^^c)=Sha.uN l c (k+1):=by
 have hm:min k l.length=k:=by omega
 have hl:((l.take k).map (· ^^^c)).length=k:=by simp[hm]
 have e1:(l.take (k+1)).map (· ^^^c)=(l.take k).map (· ^^^c)++ [l[k]^^^c]:=by rw[List.take_succ_eq_append_getElem h,List.map_append];rfl
 have e2:l.getD k 0=l[k]:=by simp[List.getD,List.getElem?_eq_getElem h]
 unfold Sha.uN;rw[e1,e2,List.append_assoc,List.set_append,if_neg (by omega),hl,Nat.sub_self,List.drop_eq_getElem_cons h];rfl
theorem pS(w:World):Sem.run Tryz.prog (zeroValue 219) w= .ok (.agg (Bs (ag 128))) w:=by kernel_rfl
def Sha.yT(l:List UInt8)(c:UInt8):List UInt8:=Sha.uN (l++ag (128 - l.length)) c 128
theorem oM(s:ByteArray)(c:Int)(C:UInt8)(hc:c=(C.toNat:Int))(w:World)(hs:s.size≤128):
  Rw 187 #[.string s,.int .u8 c] w (.string ⟨(Sha.yT s.data.toList C).toArray⟩):=by
 have hlen:s.data.toList.length=s.size:=by simp
 have hL:(s.data.toList++ag (128 - s.size)).length=128:=by simp[aG];omega
 have hz:=pS;have hcp:=Lib.run_copy_row_string (P:=Tryz.prog) (w.alloc (.cells (Bs (ag 128)) 219)) 55 9 3 5 w.heap.size 0 128 128 s (Bs (ag 128)) 219 Tryz.underlying55 Tryz.infoByte1 (heap_alloc_new w _) (by omega) (by rw[ce,aG];omega);rw[jU s 128,World.setRow_alloc_new]at hcp;have HM:Hid (Sha.yT s.data.toList C=Sha.uN (s.data.toList++ag (128 - s.size)) C 128):=by unfold Sha.yT;rw[hlen];rfl
 generalize s.data.toList++ag (128 - s.size)=L0 at hcp hL HM;generalize Sha.yT s.data.toList C=M at HM⊢;have hb:=Blk.new w (Bs L0) 219;have BI:Below w.heap.size w (w.alloc (.cells (Bs L0) 219)):=bR.alloc nR _;subst hc;go_enter Tryz.func187,Tryz.ntmps187;go_wp2;generalize w.alloc (.cells (Bs L0) 219)=w1 at hb BI⊢;go_loopw [10] (fun i wr=> ∃k:Nat,k≤128∧i= .int .i64 k∧Blk wr w.heap.size (Bs (Sha.uN L0 C k)) 219∧Below w.heap.size w wr) (fun i _=>128 - (intOf i).toNat)
 case atStart=>exact⟨0,by omega,rfl,hb,BI⟩
 case round=>
  clear hb BI;obtain⟨k,hk,rfl,hb,BI⟩:=hrel;by_cases hlt:k<128
  ·have hc:=hb.cell k;rw[bU _ _ (by rw[Sha.uH];omega),Sha.yz _ _ _ (by omega)]at hc;have hf:=hb.frozen k;have i0:(k:Int)<128:=by omega
   generalize hx:L0.getD k 0=x at hc;have HX:Hid _:=hx;clear hx;go_wp2;go_roundw
   case rel=>
    refine⟨k+1,by omega,by go_num,?_,BI.setCell nR _⟩;rw[hb.set,dF,cu,←show L0.getD k 0=x from HX.out,Sha.xS _ _ _ (by omega)];exact hb.row _
   case measure=>simp[intOf];omega
  ·have hk8:k=128:=by omega
   subst hk8;have hso:=aQ (cap:=128) hb 128 (by rw[Sha.uH,hL]);go_wp2;go_ret;exact⟨by rw[show M=_ from HM.out];rfl,BI⟩
def Sha.OfB(K:Nat→BitVec 64)(s:ByteArray):ByteArray:=⟨(Sha.digest K s.data.toList).toArray⟩
def Sha.uX(s:ByteArray)(c:UInt8):ByteArray:=⟨(Sha.yT s.data.toList c).toArray⟩
theorem Sha.uh(K:Nat→BitVec 64)(s:ByteArray):(Sha.OfB K s).size=64:=by
 show(Sha.digest K s.data.toList).toArray.size=64
 simp[Sha.digest,Sha.tellTo_length]
theorem Sha.uB(s:ByteArray)(c:UInt8)(h:s.size≤128):(Sha.uX s c).size=128:=by
 have:s.data.toList.length=s.size:=by simp
 show(Sha.yT s.data.toList c).toArray.size=128
 simp[Sha.yT,Sha.uH,aG];omega
theorem iJ(K:Nat→BitVec 64)(s:ByteArray)(w:World)(hs:s.size≤140737488351232)(hK:Tab K w):
  Rw 113 #[.string s] w (.string (Sha.OfB K s)):=gY K s w hs hK
theorem ij(s:ByteArray)(c:Int)(C:UInt8)(hc:c=(C.toNat:Int))(w:World)(hs:s.size≤128):
  Rw 187 #[.string s,.int .u8 c] w (.string (Sha.uX s C)):=oM s c C hc w hs
def Sha.Ai(K:Nat→BitVec 64)(key data:ByteArray):ByteArray:=Sha.OfB K (Sha.uX key 92++Sha.OfB K (Sha.uX key 54++data))
def Sha.xK(K:Nat→BitVec 64)(key:ByteArray):ByteArray:=if 128<key.size then Sha.OfB K key else key
def Sha.wC(K:Nat→BitVec 64)(key data:ByteArray):ByteArray:=Sha.Ai K (Sha.xK K key) data
theorem Sha.vV(K:Nat→BitVec 64)(key data:ByteArray):(Sha.wC K key data).size=64:=Sha.uh _ _
theorem Sha.yB(K:Nat→BitVec 64)(key:ByteArray):(Sha.xK K key).size≤128:=by
 unfold Sha.xK;split
 ·rw[Sha.uh];omega
 ·omega
theorem iK(K:Nat→BitVec 64)(key data:ByteArray)(w:World)(hk:key.size≤1000000)(hd:data.size≤1000000)(hK:Tab K w):
  Rw 126 #[.string key,.string data] w (.string (Sha.wC K key data)):=by
 have hmk:=Sha.yB K key;by_cases hlong:128<key.size
 ·have Cz:Sha.xK K key=Sha.OfB K key:=by unfold Sha.xK;rw[if_pos hlong]
  unfold Sha.wC;rw[Cz]at hmk⊢;clear Cz;have e92:=Sha.uB (Sha.OfB K key) 92 hmk;have e54:=Sha.uB (Sha.OfB K key) 54 hmk;have e64:=Sha.uh K (Sha.uX (Sha.OfB K key) 54++data);have hL:(128:Int)<key.size:=by omega
  go_enter Tryz.func126,Tryz.ntmps126;go_wp2_with fail;refine(iJ K key _ (by omega) hK).mono ?_;rintro e w1 ⟨rfl,hb1⟩;go_wp2_with fail;refine(ij _ _ 92 rfl _ hmk).mono ?_;rintro e w2 ⟨rfl,hb2⟩;go_wp2_with fail;refine(ij _ _ 54 rfl _ hmk).mono ?_;rintro e w3 ⟨rfl,hb3⟩;have hb13:=(hb1.trans (hb2.mono hb1.size));have hb14:=(hb13.trans (hb3.mono hb13.size));have hK3:=hK.below hb14;go_wp2_with fail;refine(iJ K _ _ (by rw[ByteArray.size_append];omega) hK3).mono ?_;rintro e w4 ⟨rfl,hb4⟩;have hb15:=(hb14.trans (hb4.mono hb14.size));have hK4:=hK.below hb15;go_wp2_with fail;refine(iJ K _ _ (by rw[ByteArray.size_append,Sha.uh];omega) hK4).mono ?_;rintro e w5 ⟨rfl,hb5⟩;go_wp2;go_ret;exact⟨rfl,hb15.trans (hb5.mono hb15.size)⟩
 ·have Cz:Sha.xK K key=key:=by unfold Sha.xK;rw[if_neg hlong]
  unfold Sha.wC;rw[Cz]at hmk⊢;clear Cz;have e92:=Sha.uB key 92 hmk;have e54:=Sha.uB key 54 hmk;have e64:=Sha.uh K (Sha.uX key 54++data);have hL: ¬(128:Int)<key.size:=by omega
  have hb1:=Below.refl w.heap.size w;go_enter Tryz.func126,Tryz.ntmps126;go_wp2_with fail;refine(ij _ _ 92 rfl _ hmk).mono ?_;rintro e w2 ⟨rfl,hb2⟩;go_wp2_with fail;refine(ij _ _ 54 rfl _ hmk).mono ?_;rintro e w3 ⟨rfl,hb3⟩;have hb13:=(hb1.trans (hb2.mono hb1.size));have hb14:=(hb13.trans (hb3.mono hb13.size));have hK3:=hK.below hb14;go_wp2_with fail;refine(iJ K _ _ (by rw[ByteArray.size_append];omega) hK3).mono ?_;rintro e w4 ⟨rfl,hb4⟩;have hb15:=(hb14.trans (hb4.mono hb14.size));have hK4:=hK.below hb15;go_wp2_with fail;refine(iJ K _ _ (by rw[ByteArray.size_append,Sha.uh];omega) hK4).mono ?_;rintro e w5 ⟨rfl,hb5⟩;go_wp2;go_ret;exact⟨rfl,hb15.trans (hb5.mono hb15.size)⟩
def Sha.piece(K:Nat→BitVec 64)(by_ purpose:ByteArray):Nat→ByteArray
 |0=>⟨#[]⟩
 |i+1=>Sha.wC K by_ (Sha.piece K by_ purpose i++purpose++⟨#[UInt8.ofNat (i+1)]⟩)
def Sha.str(K:Nat→BitVec 64)(by_ purpose:ByteArray):Nat→List UInt8
 |0=> []
 |i+1=>Sha.str K by_ purpose i++(Sha.piece K by_ purpose (i+1)).data.toList
theorem Sha.vp(K:Nat→BitVec 64)(b p:ByteArray)(i:Nat):(Sha.str K b p i).length=64*i:=by
 induction i with
 |zero=>rfl
 |succ i ih=>
  have:(Sha.piece K b p (i+1)).data.toList.length=64:=by
   have:=Sha.vV K b (Sha.piece K b p i++p++⟨#[UInt8.ofNat (i+1)]⟩);simpa [Sha.piece]using this
  simp only[Sha.str,List.length_append,ih,this];omega
theorem oN(n:Nat)(h:n≤281474976710656)(w:World):
  (Instr.makeSlice 55 (.int .i64 0) (.int .i64 (n:Int))).run Tryz.prog w= .ok (.slice (some ⟨w.heap.size,0,none⟩) 0 n) (w.alloc (.cells (Bs (ag n)) 5)):=by
 obtain⟨i,hi,hzz⟩:=Option.map_eq_some_iff.1 Tryz.infoByte;simp only[Prod.mk.injEq]at hzz;obtain⟨hz,hs,hb⟩:=hzz;have:=run_make (P:=Tryz.prog) w 55 5 i _ Tryz.underlying55 hi hz .i64 .i64 0 n (by omega) (by omega) (by rw[hb];omega) (by omega);rw[this,hs,←ik];simp[Value.cells]
def Sha.xw(K:Nat→BitVec 64)(b p:ByteArray)(n i:Nat):List UInt8:=(Sha.str K b p i).take n++ag (n - 64*i)
theorem Sha.xH(K:Nat→BitVec 64)(b p:ByteArray)(n i:Nat):(Sha.xw K b p n i).length=n:=by
 simp[Sha.xw,Sha.vp,aG];omega
theorem Sha.xQ(K:Nat→BitVec 64)(b p:ByteArray)(i:Nat):(Sha.piece K b p i).size≤64:=by
 cases i with
 |zero=>exact Nat.zero_le _
 |succ i=>rw[Sha.piece,Sha.vV];omega
theorem Sha.xG(K:Nat→BitVec 64)(b p:ByteArray)(i:Nat):(Sha.piece K b p (i+1)).size=64:=by
 rw[Sha.piece,Sha.vV]
theorem kW(i:Nat)(h:i<255):(#[Value.int .u8 ((i:Int)+1)]:Array Value)=Bs [UInt8.ofNat (i+1)]:=by
 have:((i+1)%256)=i+1:=by omega
 simp[Bs,this]
theorem oz{w:World}{g m c t:Nat}{l:List UInt8}(hb:Blk w g (Bs l) t)(p:List UInt8)(hc:c≤p.length)(hroom:m+c≤l.length):
  (storeCells ⟨g,m,none⟩ (List.take c (List.map (fun b:UInt8=>Value.int IntKind.u8 (b.toNat:Int)) p))).run Tryz.prog w= .ok () (w.setRow g (Bs (l.take m++p.take c++l.drop (m+c)))):=by
 have hl:(List.take c (List.map (fun b:UInt8=>Value.int IntKind.u8 (b.toNat:Int)) p)).length=c:=by simp;omega
 have:=run_storeCells_at Tryz.prog g m t (List.take c (List.map (fun b:UInt8=>Value.int IntKind.u8 (b.toNat:Int)) p)) 0 (Bs l) w hb (by rw[hl,ce];omega) (by
  intro v hv;have:=List.mem_of_mem_take hv;simp only[List.mem_map]at this;obtain⟨x,_,rfl⟩:=this;rfl)
 rw[this,hl];congr 2
 simp[Bs,List.map_take,List.map_drop]
theorem Sha.zF(K:Nat→BitVec 64)(b p P1:ByteArray)(n i c:Nat)(hc:c=min 64 (n - 64*i))(hi:64*i<n)(h1:P1.size=64)(hs:Sha.str K b p (i+1)=Sha.str K b p i++P1.data.toList):
  (Sha.xw K b p n i).take (64*i)++P1.data.toList.take c++(Sha.xw K b p n i).drop (64*i+c)=Sha.xw K b p n (i+1):=by
 have hl:=Sha.vp K b p i;have hp:P1.data.toList.length=64:=by simpa using h1
 have e2:List.take n (Sha.str K b p i)=Sha.str K b p i:=List.take_of_length_le (by omega);have e3:List.take c P1.data.toList=List.take (n - 64*i) P1.data.toList:=by
  by_cases h:n - 64*i≤64
  ·rw[hc,Nat.min_eq_right h]
  ·rw[hc,Nat.min_eq_left (by omega),List.take_of_length_le (by omega),List.take_of_length_le (by omega)]
 unfold Sha.xw;rw[hs,e2,e3,List.take_append_of_le_length (by omega),List.take_of_length_le (by omega),List.take_append,e2,hl,List.drop_append,List.drop_of_length_le (by omega),List.nil_append,hl];congr 1
 unfold ag;rw[List.drop_replicate];congr 1
 omega
theorem Sha.zg(K:Nat→BitVec 64)(b p:ByteArray)(i d:Nat):(Sha.str K b p (i+d)).take (64*i)=Sha.str K b p i:=by
 induction d with
 |zero=>exact List.take_of_length_le (by rw[Sha.vp];omega)
 |succ d ih=>rw[←Nat.add_assoc,Sha.str,List.take_append_of_le_length (by rw[Sha.vp];omega),ih]
theorem Sha.yV(K:Nat→BitVec 64)(b p:ByteArray)(n i:Nat)(hi:i≤16)(hn:n≤64*i):Sha.xw K b p n i=(Sha.str K b p 16).take n:=by
 have h:=Sha.zg K b p i (16 - i);rw[show i+(16 - i)=16 by omega]at h;unfold Sha.xw;rw[←h,List.take_take,Nat.min_eq_left hn,show n - 64*i=0 by omega];simp[ag]
theorem mi(K:Nat→BitVec 64)(secret salt purpose:ByteArray)(n:Nat)(w:World)(h1:secret.size≤100000)(h2:salt.size≤100000)(h3:purpose.size≤100000)(hn:n≤1000)(hK:Tab K w):
  Rw 59 #[.string secret,.string salt,.string purpose,.int .i64 n] w (.string ⟨((Sha.str K (Sha.wC K salt secret) purpose 16).take n).toArray⟩):=by
 have hmk:=oN n (by omega);have hmac:=(iK K salt secret w (by omega) (by omega) hK);have hB:=Sha.vV K salt secret;generalize Sha.wC K salt secret=B0 at hmac hB⊢;have HMAC:Hid (Rw 126 #[.string salt,.string secret] w (.string B0)):=hmac;clear hmac;go_enter Tryz.func59,Tryz.ntmps59;go_wp2_with fail;refine HMAC.out.mono ?_;rintro e w1 ⟨rfl,hb1⟩;have hb:=Blk.new w1 (Bs (ag n)) 5;have BI:Below w.heap.size w (w1.alloc (.cells (Bs (ag n)) 5)):=hb1.alloc hb1.size _;have hD:=hb1.size;go_wp2_with fail;generalize w1.alloc (.cells (Bs (ag n)) 5)=w2 at hb BI⊢;generalize w1.heap.size=D0 at hb hD⊢;go_loopw [10,11,12] (fun d p q wr=> ∃i m:Nat,Hid (m=min (64*i) n)∧i≤16∧m≤n∧d= .slice (some ⟨D0,0,none⟩) m n∧p= .string (Sha.piece K B0 purpose i)∧q= .int .u8 ((i:Int)+1)∧Blk wr D0 (Bs (Sha.xw K B0 purpose n i)) 5∧Below w.heap.size w wr) (fun d _ _ _=>n - bI d)
 case atStart=>exact⟨0,0,(by show _=_;omega),by omega,by omega,rfl,rfl,rfl,(by rw[show Sha.xw K B0 purpose n 0=ag n by simp[Sha.xw,Sha.str]];exact hb),BI⟩
 case round=>
  clear hb BI;obtain⟨i,m,HM,hi,hmn,rfl,rfl,rfl,hb,BI⟩:=hrel;by_cases hlt:m<n
  ·have hm:m=64*i:=by have:=HM.out;omega
   have hi16:i<16:=by omega
   have i0:(m:Int)<n:=by omega
   subst hm;have hps:=Sha.xQ K B0 purpose i;have Cw:=kW i (by omega);have hcv:=aQ (cap:=1) (Blk.new wr (Bs [UInt8.ofNat (i+1)]) 5) 1 rfl;rw[←Cw]at hcv;clear Cw;have HP:Hid (Sha.piece K B0 purpose (i+1)=Sha.wC K B0 (Sha.piece K B0 purpose i++purpose++⟨[UInt8.ofNat (i+1)].toArray⟩)):=rfl;have hcb:([UInt8.ofNat (i+1)].toArray).size≤1:=by simp
   generalize [UInt8.ofNat (i+1)].toArray=cb at hcv HP hcb;have hcb':(⟨cb⟩:ByteArray).size≤1:=hcb;have e1:(Sha.piece K B0 purpose i++purpose).size≤100064:=by rw[ByteArray.size_append];omega
   go_wp2_with fail;have hbw:Below w.heap.size w (wr.alloc (.cells #[.int .u8 ((i:Int)+1)] 5)):=BI.alloc BI.size _;refine(iK K _ _ _ (by omega) (by rw[ByteArray.size_append];omega) (hK.below hbw)).mono ?_;rintro e w3 ⟨rfl,hb3⟩;have hP1:=Sha.xG K B0 purpose i;rw[←show Sha.piece K B0 purpose (i+1)=_ from HP.out];have hbD:Blk w3 D0 (Bs (Sha.xw K B0 purpose n i)) 5:=(hb.alloc _).keep hb3;have hb5:=hbw.trans (hb3.mono hbw.size);have HQ:Hid (Sha.str K B0 purpose (i+1)=Sha.str K B0 purpose i++(Sha.piece K B0 purpose (i+1)).data.toList):=rfl;generalize hPP:Sha.piece K B0 purpose (i+1)=P1 at hP1 HQ⊢;have HPP:Hid _:=hPP;clear hPP;obtain⟨c,hc⟩: ∃c,c=min 64 (n - 64*i):=⟨_,rfl⟩
   have q1:(min 64 ((n:Int) - 64*(i:Int))).toNat=c:=by omega
   have q2:min c 64=c:=by omega
   have q3:c≤64:=by omega
   have q4:64*i+c≤n:=by omega
   have HC:Hid _:=hc;clear hc;have hst:=oz (c:=c) (m:=64*i) hbD P1.data.toList (by simp;omega) (by rw[Sha.xH];omega);rw[Sha.zF K B0 purpose P1 n i c HC.out (by omega) hP1 HQ.out]at hst;go_wp2;go_roundw
   case rel=>
    refine⟨i+1,64*i+c,?_,by omega,by omega,rfl,?_,?_,hbD.row _,below_setRow hb5 (by omega) _⟩
    ·have:=HC.out;show _=_;omega
    ·rw[show Sha.piece K B0 purpose (i+1)=P1 from HPP.out]
    ·go_num
   case measure=>simp[bI];have:=HC.out;omega
  ·have hmn':m=n:=by omega
   subst hmn';have hcv:=aQ (cap:=m) hb m (Sha.xH K B0 purpose m i).symm;rw[Sha.yV K B0 purpose m i hi (by have:=HM.out;omega)]at hcv;go_wp2;go_ret;exact⟨rfl,BI⟩
def Sha.uj(K:Nat→BitVec 64)(s:ByteArray):ByteArray×Int:=if s.size≤10000 then(Sha.OfB K s,0)else (⟨#[]⟩,1)
def Sha.vU(K:Nat→BitVec 64)(k s:ByteArray):ByteArray×Int:=if k.size≤10000∧s.size≤10000 then(Sha.wC K k s,0)else (⟨#[]⟩,1)
def Sha.wl(K:Nat→BitVec 64)(secret salt purpose:ByteArray)(n:Nat):ByteArray:=⟨((Sha.str K (Sha.wC K salt secret) purpose 16).take n).toArray⟩
def Sha.ud(K:Nat→BitVec 64)(secret salt purpose:ByteArray)(n:Int):ByteArray×Int:=
 if secret.size≤10000∧salt.size≤10000∧purpose.size≤10000∧0≤n∧n≤1000 then(Sha.wl K secret salt purpose n.toNat,0)else (⟨#[]⟩,1)
theorem mQ(K:Nat→BitVec 64)(s:ByteArray)(w:World)(hs:s.size≤140737488351232)(hK:Tab K w):
  Rw 89 #[.string s] w (.tuple #[.string (Sha.uj K s).1,.int .i64 (Sha.uj K s).2]):=by
 have BI:Below w.heap.size w (w.alloc (.cells (Ss [s]) 9)):=bR.alloc nR _;have HT:Hid (Calls Tryz.prog 27 #[.int .i64 10000,.slice (some ⟨w.heap.size,0,none⟩) 1 1] (w.alloc (.cells (Ss [s]) 9)) fun e w'=>e= .returned (.bool (aJ 10000 [s]))∧w'=w.alloc (.cells (Ss [s]) 9)):=
  cn w.heap.size 1 10000 [s] 9 _ (by omega) rfl (by omega) (Blk.new w _ _) (by intro j hj;match j,hj with|0,_=>show s.size≤_;omega)
 by_cases h:s.size≤10000
 ·have e1:Sha.uj K s=(Sha.OfB K s,0):=by unfold Sha.uj;rw[if_pos h]
  have e2:aJ 10000 [s]=false:=by rw[fQ];simp;omega
  rw[e2]at HT;rw[e1];clear e1 e2;go_enter Tryz.func89,Tryz.ntmps89;go_wp2_with fail;refine HT.out.mono ?_;rintro e w' ⟨rfl,rfl⟩;go_wp2_with fail;refine(iJ K s _ hs (hK.below BI)).mono ?_;rintro e w2 ⟨rfl,hb2⟩;go_wp2;go_ret2;exact⟨rfl,BI.trans (hb2.mono BI.size)⟩
 ·have e1:Sha.uj K s=(⟨#[]⟩,1):=by unfold Sha.uj;rw[if_neg h]
  have e2:aJ 10000 [s]=true:=by rw[fQ];simp;omega
  rw[e2]at HT;rw[e1];clear e1 e2;go_enter Tryz.func89,Tryz.ntmps89;go_wp2_with fail;refine HT.out.mono ?_;rintro e w' ⟨rfl,rfl⟩;go_wp2;go_ret2;exact⟨rfl,BI⟩
theorem qY(K:Nat→BitVec 64)(k s:ByteArray)(w:World)(hk:k.size≤140737488351232)(hs:s.size≤140737488351232)(hK:Tab K w):
  Rw 91 #[.string k,.string s] w (.tuple #[.string (Sha.vU K k s).1,.int .i64 (Sha.vU K k s).2]):=by
 have BI:Below w.heap.size w (w.alloc (.cells (Ss [k,s]) 9)):=bR.alloc nR _;have HT:Hid (Calls Tryz.prog 27 #[.int .i64 10000,.slice (some ⟨w.heap.size,0,none⟩) 2 2] (w.alloc (.cells (Ss [k,s]) 9)) fun e w'=>e= .returned (.bool (aJ 10000 [k,s]))∧w'=w.alloc (.cells (Ss [k,s]) 9)):=
  cn w.heap.size 2 10000 [k,s] 9 _ (by omega) rfl (by omega) (Blk.new w _ _) (by intro j hj;match j,hj with|0,_=>show k.size≤_;omega|1,_=>show s.size≤_;omega)
 by_cases h:k.size≤10000∧s.size≤10000
 ·have e1:Sha.vU K k s=(Sha.wC K k s,0):=by unfold Sha.vU;rw[if_pos h]
  have e2:aJ 10000 [k,s]=false:=by rw[ll];simp;omega
  rw[e2]at HT;rw[e1];clear e1 e2;obtain⟨ha,hb⟩:=h;go_enter Tryz.func91,Tryz.ntmps91;go_wp2_with fail;refine HT.out.mono ?_;rintro e w' ⟨rfl,rfl⟩;go_wp2_with fail;refine(iK K k s _ (by omega) (by omega) (hK.below BI)).mono ?_;rintro e w2 ⟨rfl,hb2⟩;go_wp2;go_ret2;exact⟨rfl,BI.trans (hb2.mono BI.size)⟩
 ·have e1:Sha.vU K k s=(⟨#[]⟩,1):=by unfold Sha.vU;rw[if_neg h]
  have e2:aJ 10000 [k,s]=true:=by rw[ll];simp;omega
  rw[e2]at HT;rw[e1];clear e1 e2;go_enter Tryz.func91,Tryz.ntmps91;go_wp2_with fail;refine HT.out.mono ?_;rintro e w' ⟨rfl,rfl⟩;go_wp2;go_ret2;exact⟨rfl,BI⟩
theorem oV(K:Nat→BitVec 64)(secret salt purpose:ByteArray)(n:Nat)(w:World)(h1:secret.size≤100000)(h2:salt.size≤100000)(h3:purpose.size≤100000)(hn:n≤1000)(hK:Tab K w):
  Rw 59 #[.string secret,.string salt,.string purpose,.int .i64 n] w (.string (Sha.wl K secret salt purpose n)):=
 mi K secret salt purpose n w h1 h2 h3 hn hK
theorem mR(K:Nat→BitVec 64)(a b c:ByteArray)(n:Int)(w:World)(h1:a.size≤140737488351232)(h2:b.size≤140737488351232)(h3:c.size≤140737488351232)(hK:Tab K w):
  Rw 30 #[.string a,.string b,.string c,.int .i64 n] w (.tuple #[.string (Sha.ud K a b c n).1,.int .i64 (Sha.ud K a b c n).2]):=by
 have BI:Below w.heap.size w (w.alloc (.cells (Ss [a,b,c]) 9)):=bR.alloc nR _;have HT:Hid (Calls Tryz.prog 27 #[.int .i64 10000,.slice (some ⟨w.heap.size,0,none⟩) 3 3] (w.alloc (.cells (Ss [a,b,c]) 9)) fun e w'=>e= .returned (.bool (aJ 10000 [a,b,c]))∧w'=w.alloc (.cells (Ss [a,b,c]) 9)):=
  cn w.heap.size 3 10000 [a,b,c] 9 _ (by omega) rfl (by omega) (Blk.new w _ _) (by intro j hj;match j,hj with|0,_=>show a.size≤_;omega|1,_=>show b.size≤_;omega|2,_=>show c.size≤_;omega)
 by_cases h:a.size≤10000∧b.size≤10000∧c.size≤10000
 ·have e2:aJ 10000 [a,b,c]=false:=by rw[jb];simp;omega
  rw[e2]at HT;clear e2;by_cases hn:0≤n∧n≤1000
  ·have e1:Sha.ud K a b c n=(Sha.wl K a b c n.toNat,0):=by unfold Sha.ud;rw[if_pos ⟨h.1,h.2.1,h.2.2,hn⟩]
   rw[e1];clear e1;obtain⟨ha,hb,hc⟩:=h;obtain⟨hn0,hn1⟩:=hn;obtain⟨m,rfl⟩:=Int.eq_ofNat_of_zero_le hn0;rw[Int.toNat_natCast];have d1:decide ((m:Int)<0)=false:=by simp
   have d2:decide ((1000:Int)<(m:Int))=false:=by simp;omega
   go_enter Tryz.func30,Tryz.ntmps30;go_wp2_with fail;refine HT.out.mono ?_;rintro e w' ⟨rfl,rfl⟩;go_wp2_with fail;refine(oV K a b c m _ (by omega) (by omega) (by omega) (by omega) (hK.below BI)).mono ?_;rintro e w2 ⟨rfl,hb2⟩;go_wp2;go_ret2;exact⟨rfl,BI.trans (hb2.mono BI.size)⟩
  ·have e1:Sha.ud K a b c n=(⟨#[]⟩,1):=by unfold Sha.ud;rw[if_neg (fun h=>hn h.2.2.2)]
   rw[e1];clear e1;by_cases hn0:n<0
   ·have d1:decide (n<0)=true:=by simpa using hn0
    go_enter Tryz.func30,Tryz.ntmps30;go_wp2_with fail;refine HT.out.mono ?_;rintro e w' ⟨rfl,rfl⟩;go_wp2;go_ret2;exact⟨rfl,BI⟩
   ·have d1:decide (n<0)=false:=by simpa using hn0
    have d2:decide (1000<n)=true:=by simp;omega
    have d3:1000<n:=by omega
    go_enter Tryz.func30,Tryz.ntmps30;go_wp2_with fail;refine HT.out.mono ?_;rintro e w' ⟨rfl,rfl⟩;go_wp2;go_ret2;exact⟨rfl,BI⟩
 ·have e1:Sha.ud K a b c n=(⟨#[]⟩,1):=by unfold Sha.ud;rw[if_neg (fun h'=>h ⟨h'.1,h'.2.1,h'.2.2.1⟩)]
  have e2:aJ 10000 [a,b,c]=true:=by rw[jb];simp;omega
  rw[e2]at HT;rw[e1];clear e1 e2;go_enter Tryz.func30,Tryz.ntmps30;go_wp2_with fail;refine HT.out.mono ?_;rintro e w' ⟨rfl,rfl⟩;go_wp2;go_ret2;exact⟨rfl,BI⟩
end Go.Proofs.YtclpbaokadfhhaaGreatDoor
