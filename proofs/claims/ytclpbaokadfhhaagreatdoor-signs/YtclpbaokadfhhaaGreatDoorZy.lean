import Derived.Test.YtclpbaokadfhhaaGreatDoorZx
set_option maxRecDepth 100000
set_option maxHeartbeats 2000000
namespace Go.Proofs.YtclpbaokadfhhaaGreatDoor
open Go.RowKit
theorem OwnB.frozen{w:World}{base g n cap:Nat}{l:List UInt8}(h:OwnB w base (.slice (some ⟨g,0,none⟩) n cap) l)(i:Nat)(hi:i<l.length):w.frozen? ⟨g,i,none⟩=false:=by
 obtain⟨g',cap',cur,fz,hv,hg,hh,hfz,hc,hl,ht⟩:=h;injection hv with h1 _ _
 injection h1 with h1
 injection h1 with h1 _ _
 subst h1;simp only[World.frozen?,hh];rcases hfz with rfl|hfz
 ·simp
 ·simp;omega
theorem OwnB.set{w:World}{base g n cap:Nat}{l:List UInt8}(h:OwnB w base (.slice (some ⟨g,0,none⟩) n cap) l)(i:Nat)(_hi:i<l.length)(x:UInt8):
  OwnB (w.setCell ⟨g,i,none⟩ (.int .u8 (x.toNat:Int))) base (.slice (some ⟨g,0,none⟩) n cap) (l.set i x)∧base≤g:=by
 obtain⟨g',cap',cur,fz,hv,hg,hh,hfz,hc,hl,ht⟩:=h;injection hv with h1 h2 h3
 injection h1 with h1
 injection h1 with h1 _ _
 subst h1 h2 h3;refine⟨?_,hg⟩;rw[setCell_eq_setRow w g i cur _ fz _ hh];refine⟨g,cap,_,fz,by simp,hg,setRow_heap w g cur _ _ fz hh,by simpa using hfz,by simp[hc],by simpa using hl,?_⟩;rw[List.length_set,Array.toList_setIfInBounds,List.take_set,ht];simp[Bs,List.map_set]
theorem dA(s:ByteArray)(c:Int)(C:UInt8)(hc:c=(C.toNat:Int))(w:World)(hs:s.size≤1000000):
  Rw 195 #[.string s,.int .u8 c] w (.string ⟨(Sha.uN s.data.toList C s.size).toArray⟩):=by
 obtain⟨cap0,w1,hcv,BV,hb1⟩:=bytesOf s w.heap.size w nR;have hlen:s.data.toList.length=s.size:=by simp
 subst hc;generalize s.data.toList=L at BV hlen⊢;go_enter Tryz.func195,Tryz.ntmps195;go_wp2;clear hcv;go_loopw [6] (fun i wr=> ∃k:Nat,k≤s.size∧i= .int .i64 k∧OwnB wr w.heap.size (.slice (some ⟨w.heap.size,0,none⟩) s.size cap0) (Sha.uN L C k)∧Below w.heap.size w wr) (fun i _=>s.size - (intOf i).toNat)
 case atStart=>exact⟨0,by omega,rfl,BV,hb1⟩
 case round=>
  clear BV hb1;obtain⟨k,hk,rfl,BV,BI⟩:=hrel;by_cases hlt:k<s.size
  ·have hkl:k<(Sha.uN L C k).length:=by rw[Sha.uH];omega
   have hcl:=BV.cell k hkl;rw[Sha.yz _ _ _ (by omega)]at hcl;have hf:=BV.frozen k hkl;have Ca:=BV.set k hkl (L.getD k 0^^^C);rw[Sha.xS _ _ _ (by omega)]at Ca;generalize L.getD k 0=x at hcl Ca;rw[←dF]at Ca;have HS:Hid _:=Ca;clear Ca;have i0:(k:Int)<s.size:=by omega
   go_wp2;go_roundw
   case rel=>exact⟨k+1,by omega,by go_num,HS.out.1,BI.setCell nR _⟩
   case measure=>simp[intOf];omega
  ·have hk8:k=s.size:=by omega
   subst hk8;have hso:=OwnB.string BV (by rw[Sha.uH,hlen]);go_wp2;go_ret;exact⟨rfl,BI⟩
theorem dg(k:ByteArray)(c:UInt8)(_h:k.size≤128):Sha.uX k c=⟨(Sha.uN (k.data.toList++ag (128 - k.size)) c 128).toArray⟩:=by
 have:k.data.toList.length=k.size:=by simp
 unfold Sha.uX Sha.yT;rw[this]
def bo(k:ByteArray)(j:Nat):ByteArray:=⟨(k.data.toList++ag j).toArray⟩
theorem dB(k:ByteArray)(j:Nat):(bo k j).size=k.size+j:=by
 show(k.data.toList++ag j).toArray.size=_
 simp[aG]
theorem io(k:ByteArray)(j:Nat):bo k j++⟨#[0]⟩=bo k (j+1):=by
 unfold bo;have:=ByteArray.mk_append_mk (k.data.toList++ag j) [0];rw[show (#[0]:Array UInt8)= [0].toArray from rfl,this];congr 2
 rw[cW j 1];simp[ag]
def ej:Value→Nat| .string s=>s.size|_=>0
theorem gq(key data:ByteArray)(w:World)(hk:key.size≤900000)(hd:data.size≤900000):
  Rw 147 #[.string key,.string data] w (.string (Sha.wC Sha.K key data)):=by
 have hmk:=Sha.yB Sha.K key;have HR:Hid (Sha.wC Sha.K key data=Sha.Ai Sha.K (Sha.xK Sha.K key) data):=rfl;generalize Sha.wC Sha.K key data=R at HR⊢;by_cases hlong:128<key.size
 ·have Cz:Sha.xK Sha.K key=Sha.OfB Sha.K key:=by unfold Sha.xK;rw[if_pos hlong]
  rw[Cz]at hmk HR;clear Cz;have hL:(128:Int)<key.size:=by omega
  go_enter Tryz.func147,Tryz.ntmps147;go_wp2_with fail;refine(aT key _ (by omega)).mono ?_;rintro e w1 ⟨rfl,hb1⟩;generalize Sha.OfB Sha.K key=KEY at hmk HR⊢;have HK0:Hid (KEY=bo KEY 0):=by show _=_;unfold bo;simp[ag]
  go_wp2_with fail;go_loop [0] (fun v=> ∃j:Nat,j≤128 - KEY.size∧v= .string (bo KEY j)) (fun v=>128 - ej v)
  case atStart=>exact⟨0,by omega,congrArg Value.string HK0.out⟩
  case round=>
   obtain⟨j,hj,rfl⟩:=hrel;have hsz:=dB KEY j;by_cases hlt:j<128 - KEY.size
   ·have hlt':(bo KEY j).size<128:=by omega
    have hstep:=io KEY j;have hsz2:=dB KEY (j+1);have HST:Hid _:=hstep;clear hstep hsz;generalize bo KEY j=kk at hlt' HST;go_wp2;go_round
    case rel=>exact⟨j+1,by omega,congrArg Value.string HST.out⟩
    case measure=>simp only[ej,ByteArray.size_append];show 128 - (kk.size+1)<128 - kk.size;omega
   ·have hj2:j=128 - KEY.size:=by omega
    have hge:(bo KEY j).size=128:=by omega
    have m92:=dg KEY 92 hmk;have m54:=dg KEY 54 hmk;have hd2:(bo KEY j).data.toList=KEY.data.toList++ag (128 - KEY.size):=by rw[hj2];unfold bo;simp
    rw[←hd2]at m92 m54;have M92:Hid _:=m92;have M54:Hid _:=m54;clear m92 m54 hd2 hsz;generalize bo KEY j=kk at hge M92 M54⊢;unfold Sha.Ai at HR;have e54:=Sha.uB KEY 54 hmk;have e92:=Sha.uB KEY 92 hmk;have e64:=Sha.uh Sha.K (Sha.uX KEY 54++data);go_wp2_with fail;refine(dA kk _ 54 rfl _ (by omega)).mono ?_;rintro e w2 ⟨rfl,hb2⟩;rw[hge,←show Sha.uX KEY 54=_ from M54.out];generalize Sha.uX KEY 54=A54 at e54 e64 HR⊢;go_wp2_with fail;refine(aT _ _ (by rw[ByteArray.size_append];omega)).mono ?_;rintro e w3 ⟨rfl,hb3⟩;generalize Sha.OfB Sha.K (A54++data)=D54 at e64 HR⊢;go_wp2_with fail;refine(dA kk _ 92 rfl _ (by omega)).mono ?_;rintro e w4 ⟨rfl,hb4⟩;rw[hge,←show Sha.uX KEY 92=_ from M92.out];generalize Sha.uX KEY 92=A92 at e92 HR⊢;go_wp2_with fail;refine(aT _ _ (by rw[ByteArray.size_append];omega)).mono ?_;rintro e w5 ⟨rfl,hb5⟩;have B2:=hb1.trans (hb2.mono hb1.size);have B3:=B2.trans (hb3.mono B2.size);have B4:=B3.trans (hb4.mono B3.size);go_wp2;go_ret;exact⟨by rw[show R=_ from HR.out];rfl,B4.trans (hb5.mono B4.size)⟩
 ·have Cz:Sha.xK Sha.K key=key:=by unfold Sha.xK;rw[if_neg hlong]
  rw[Cz]at hmk HR;clear Cz;have hL: ¬(128:Int)<key.size:=by omega
  have hb1:=Below.refl w.heap.size w;go_enter Tryz.func147,Tryz.ntmps147;have HK0:Hid (key=bo key 0):=by show _=_;unfold bo;simp[ag]
  go_wp2_with fail;go_loop [0] (fun v=> ∃j:Nat,j≤128 - key.size∧v= .string (bo key j)) (fun v=>128 - ej v)
  case atStart=>exact⟨0,by omega,congrArg Value.string HK0.out⟩
  case round=>
   obtain⟨j,hj,rfl⟩:=hrel;have hsz:=dB key j;by_cases hlt:j<128 - key.size
   ·have hlt':(bo key j).size<128:=by omega
    have hstep:=io key j;have hsz2:=dB key (j+1);have HST:Hid _:=hstep;clear hstep hsz;generalize bo key j=kk at hlt' HST;go_wp2;go_round
    case rel=>exact⟨j+1,by omega,congrArg Value.string HST.out⟩
    case measure=>simp only[ej,ByteArray.size_append];show 128 - (kk.size+1)<128 - kk.size;omega
   ·have hj2:j=128 - key.size:=by omega
    have hge:(bo key j).size=128:=by omega
    have m92:=dg key 92 hmk;have m54:=dg key 54 hmk;have hd2:(bo key j).data.toList=key.data.toList++ag (128 - key.size):=by rw[hj2];unfold bo;simp
    rw[←hd2]at m92 m54;have M92:Hid _:=m92;have M54:Hid _:=m54;clear m92 m54 hd2 hsz;generalize bo key j=kk at hge M92 M54⊢;unfold Sha.Ai at HR;have e54:=Sha.uB key 54 hmk;have e92:=Sha.uB key 92 hmk;have e64:=Sha.uh Sha.K (Sha.uX key 54++data);go_wp2_with fail;refine(dA kk _ 54 rfl _ (by omega)).mono ?_;rintro e w2 ⟨rfl,hb2⟩;rw[hge,←show Sha.uX key 54=_ from M54.out];generalize Sha.uX key 54=A54 at e54 e64 HR⊢;go_wp2_with fail;refine(aT _ _ (by rw[ByteArray.size_append];omega)).mono ?_;rintro e w3 ⟨rfl,hb3⟩;generalize Sha.OfB Sha.K (A54++data)=D54 at e64 HR⊢;go_wp2_with fail;refine(dA kk _ 92 rfl _ (by omega)).mono ?_;rintro e w4 ⟨rfl,hb4⟩;rw[hge,←show Sha.uX key 92=_ from M92.out];generalize Sha.uX key 92=A92 at e92 HR⊢;go_wp2_with fail;refine(aT _ _ (by rw[ByteArray.size_append];omega)).mono ?_;rintro e w5 ⟨rfl,hb5⟩;have B2:=hb1.trans (hb2.mono hb1.size);have B3:=B2.trans (hb3.mono B2.size);have B4:=B3.trans (hb4.mono B3.size);go_wp2;go_ret;exact⟨by rw[show R=_ from HR.out];rfl,B4.trans (hb5.mono B4.size)⟩
theorem kM(s:ByteArray)(w:World)(hs:s.size≤9223372036854775807):
  Rw 90 #[.string s] w (.tuple #[.string (Sha.uj Sha.K s).1,.int .i64 (Sha.uj Sha.K s).2]):=by
 by_cases h:s.size≤10000
 ·have e1:Sha.uj Sha.K s=(Sha.OfB Sha.K s,0):=by unfold Sha.uj;rw[if_pos h]
  rw[e1];clear e1;go_enter Tryz.func90,Tryz.ntmps90;go_wp2_with fail;refine(aT s _ (by omega)).mono ?_;rintro e w2 ⟨rfl,hb2⟩;go_wp2;go_ret2;exact⟨rfl,hb2⟩
 ·have e1:Sha.uj Sha.K s=(⟨#[]⟩,1):=by unfold Sha.uj;rw[if_neg h]
  rw[e1];clear e1;go_enter Tryz.func90,Tryz.ntmps90;go_wp2;go_ret2;exact⟨rfl,Below.refl _ _⟩
theorem po(k s:ByteArray)(w:World)(hk:k.size≤9223372036854775807)(hs:s.size≤9223372036854775807):
  Rw 92 #[.string k,.string s] w (.tuple #[.string (Sha.vU Sha.K k s).1,.int .i64 (Sha.vU Sha.K k s).2]):=by
 by_cases h1:k.size≤10000
 ·have d1:decide ((10000:Int)<(k.size:Int))=false:=by simp;omega
  by_cases h2:s.size≤10000
  ·have d2:decide ((10000:Int)<(s.size:Int))=false:=by simp;omega
   have e1:Sha.vU Sha.K k s=(Sha.wC Sha.K k s,0):=by unfold Sha.vU;rw[if_pos ⟨h1,h2⟩]
   rw[e1];clear e1;go_enter Tryz.func92,Tryz.ntmps92;go_wp2_with fail;refine(gq k s _ (by omega) (by omega)).mono ?_;rintro e w2 ⟨rfl,hb2⟩;go_wp2;go_ret2;exact⟨rfl,hb2⟩
  ·have d2:decide ((10000:Int)<(s.size:Int))=true:=by simp;omega
   have e1:Sha.vU Sha.K k s=(⟨#[]⟩,1):=by unfold Sha.vU;rw[if_neg (fun h=>h2 h.2)]
   rw[e1];clear e1;go_enter Tryz.func92,Tryz.ntmps92;go_wp2;go_ret2;exact⟨rfl,Below.refl _ _⟩
 ·have d1:decide ((10000:Int)<(k.size:Int))=true:=by simp;omega
  have e1:Sha.vU Sha.K k s=(⟨#[]⟩,1):=by unfold Sha.vU;rw[if_neg (fun h=>h1 h.1)]
  rw[e1];clear e1;go_enter Tryz.func92,Tryz.ntmps92;go_wp2;go_ret2;exact⟨rfl,Below.refl _ _⟩
theorem pW(K:Nat→BitVec 64)(b p:ByteArray)(n i:Nat)(hi:i≤16)(hn:n≤64*i):(⟨(Sha.str K b p i).toArray⟩:ByteArray).extract 0 n=⟨((Sha.str K b p 16).take n).toArray⟩:=by
 have h:=Sha.yV K b p n i hi hn;unfold Sha.xw at h;rw[show n - 64*i=0 by omega]at h;rw[←h];apply ByteArray.ext
 simp[ByteArray.data_extract,ag]
theorem kv(secret salt purpose:ByteArray)(n:Nat)(w:World)(h1:secret.size≤100000)(h2:salt.size≤100000)(h3:purpose.size≤100000)(hn:n≤1000):
  Rw 148 #[.string secret,.string salt,.string purpose,.int .i64 n] w (.string (Sha.wl Sha.K secret salt purpose n)):=by
 have HR:Hid (Sha.wl Sha.K secret salt purpose n=⟨((Sha.str Sha.K (Sha.wC Sha.K salt secret) purpose 16).take n).toArray⟩):=rfl;generalize Sha.wl Sha.K secret salt purpose n=R at HR⊢;go_enter Tryz.func148,Tryz.ntmps148;go_wp2_with fail;refine(gq _ _ _ (by omega) (by omega)).mono ?_;rintro e w1 ⟨rfl,hb1⟩;have hB:=Sha.vV Sha.K salt secret;generalize Sha.wC Sha.K salt secret=B0 at hB HR⊢;go_wp2_with fail;go_loopw [10,11,12] (fun o t q wr=> ∃i:Nat,i≤16∧o= .string ⟨(Sha.str Sha.K B0 purpose i).toArray⟩∧t= .string (Sha.piece Sha.K B0 purpose i)∧q= .int .i64 ((i:Int)+1)∧Below w.heap.size w wr) (fun o _ _ _=>1024 - ej o)
 case atStart=>exact⟨0,by omega,rfl,rfl,rfl,hb1⟩
 case round=>
  obtain⟨i,hi,rfl,rfl,rfl,BI⟩:=hrel;have hsl:=Sha.vp Sha.K B0 purpose i;by_cases hlt:64*i<n
  ·have hi16:i<16:=by omega
   have i0:64*(i:Int)<n:=by omega
   have hps:=Sha.xQ Sha.K B0 purpose i;have Cw:=kW i (by omega);have hcv:=aQ (cap:=1) (Blk.new wr (Bs [UInt8.ofNat (i+1)]) 5) 1 rfl;rw[←Cw]at hcv;clear Cw;have HP:Hid (Sha.piece Sha.K B0 purpose (i+1)=Sha.wC Sha.K B0 (Sha.piece Sha.K B0 purpose i++purpose++⟨[UInt8.ofNat (i+1)].toArray⟩)):=rfl;have hcb:([UInt8.ofNat (i+1)].toArray).size≤1:=by simp
   generalize [UInt8.ofNat (i+1)].toArray=cb at hcv HP hcb;have hcb':(⟨cb⟩:ByteArray).size≤1:=hcb;have e1:(Sha.piece Sha.K B0 purpose i++purpose).size≤100064:=by rw[ByteArray.size_append];omega
   have hP1:=Sha.xG Sha.K B0 purpose i;have HQ:Hid (Sha.str Sha.K B0 purpose (i+1)=Sha.str Sha.K B0 purpose i++(Sha.piece Sha.K B0 purpose (i+1)).data.toList):=rfl;generalize hPP:Sha.piece Sha.K B0 purpose (i+1)=P1 at hP1 HQ HP;have HPP:Hid _:=hPP;clear hPP;generalize Sha.piece Sha.K B0 purpose i=P0 at hps e1 HP⊢;generalize Sha.str Sha.K B0 purpose i=S0 at hsl HQ⊢;have w1i:IntKind.u8.wrap ((i:Int)+1)=(i:Int)+1:=by rw[IntKind.wrap_u8'];omega
   go_wp2_with fail;refine(gq _ _ _ (by omega) (by rw[ByteArray.size_append];omega)).mono ?_;rintro e w3 ⟨rfl,hb3⟩;rw[←show P1=_ from HP.out];go_wp2;go_roundw
   case rel=>
    refine⟨i+1,by omega,?_,by rw[show Sha.piece Sha.K B0 purpose (i+1)=P1 from HPP.out],by go_num,?_⟩
    ·rw[show Sha.str Sha.K B0 purpose (i+1)=_ from HQ.out];exact congrArg Value.string (ByteArray.mk_append_mk S0 P1.data.toList)
    ·have hbw:=BI.alloc BI.size (.cells #[.int .u8 ((i:Int)+1)] 5);exact hbw.trans (hb3.mono hbw.size)
   case measure=>
    simp only[ej,ByteArray.size_append];show 1024 - (S0.toArray.size+P1.size)<1024 - S0.toArray.size
    simp[hsl,hP1];omega
  ·have HE:Hid _:=pW Sha.K B0 purpose n i hi (by omega);generalize Sha.str Sha.K B0 purpose i=S0 at hsl HE⊢;have hn0:n≤S0.length:=by omega
   have i0: ¬64*(i:Int)<n:=by omega
   go_wp2;go_ret;exact⟨by rw[show R=_ from HR.out,←show _=_ from HE.out];rfl,BI⟩
theorem cM(K:Nat→BitVec 64)(a b c:ByteArray)(n:Int)(h: ¬(a.size≤10000∧b.size≤10000∧c.size≤10000∧0≤n∧n≤1000)):Sha.ud K a b c n=(⟨#[]⟩,1):=by
 unfold Sha.ud;rw[if_neg h]
theorem kE(K:Nat→BitVec 64)(a b c:ByteArray)(n:Int)(h:a.size≤10000∧b.size≤10000∧c.size≤10000∧0≤n∧n≤1000):Sha.ud K a b c n=(Sha.wl K a b c n.toNat,0):=by
 unfold Sha.ud;rw[if_pos h]
theorem kN(a b c:ByteArray)(n:Int)(w:World)(h1:a.size≤9223372036854775807)(h2:b.size≤9223372036854775807)(h3:c.size≤9223372036854775807):
  Rw 93 #[.string a,.string b,.string c,.int .i64 n] w (.tuple #[.string (Sha.ud Sha.K a b c n).1,.int .i64 (Sha.ud Sha.K a b c n).2]):=by
 by_cases ha:10000<a.size
 ·have d1:decide ((10000:Int)<(a.size:Int))=true:=by simp;omega
  have e1:=cM Sha.K a b c n (fun h=>by omega);rw[e1];clear e1;go_enter Tryz.func93,Tryz.ntmps93;go_wp2;go_ret2;exact⟨rfl,Below.refl _ _⟩
 have d1:decide ((10000:Int)<(a.size:Int))=false:=by simp;omega
 by_cases hb:10000<b.size
 ·have d2:decide ((10000:Int)<(b.size:Int))=true:=by simp;omega
  have e1:=cM Sha.K a b c n (fun h=>by omega);rw[e1];clear e1;go_enter Tryz.func93,Tryz.ntmps93;go_wp2;go_ret2;exact⟨rfl,Below.refl _ _⟩
 have d2:decide ((10000:Int)<(b.size:Int))=false:=by simp;omega
 by_cases hc:10000<c.size
 ·have d3:decide ((10000:Int)<(c.size:Int))=true:=by simp;omega
  have e1:=cM Sha.K a b c n (fun h=>by omega);rw[e1];clear e1;go_enter Tryz.func93,Tryz.ntmps93;go_wp2;go_ret2;exact⟨rfl,Below.refl _ _⟩
 have d3:decide ((10000:Int)<(c.size:Int))=false:=by simp;omega
 by_cases hn0:n<0
 ·have d4:decide (n<0)=true:=by simpa using hn0
  have e1:=cM Sha.K a b c n (fun h=>by omega);rw[e1];clear e1;go_enter Tryz.func93,Tryz.ntmps93;go_wp2;go_ret2;exact⟨rfl,Below.refl _ _⟩
 have d4:decide (n<0)=false:=by simpa using hn0
 by_cases hn1:1000<n
 ·have d5:decide (1000<n)=true:=by simpa using hn1
  have e1:=cM Sha.K a b c n (fun h=>by omega);rw[e1];clear e1;go_enter Tryz.func93,Tryz.ntmps93;go_wp2;go_ret2;exact⟨rfl,Below.refl _ _⟩
 have d5:decide (1000<n)=false:=by simpa using hn1
 have e1:=kE Sha.K a b c n (by omega);obtain⟨m,rfl⟩:=Int.eq_ofNat_of_zero_le (by omega:0≤n);rw[e1,Int.toNat_natCast];clear e1;go_enter Tryz.func93,Tryz.ntmps93;go_wp2_with fail;refine(kv a b c m _ (by omega) (by omega) (by omega) (by omega)).mono ?_;rintro e w2 ⟨rfl,hb2⟩;go_wp2;go_ret2;exact⟨rfl,hb2⟩
end Go.Proofs.YtclpbaokadfhhaaGreatDoor
