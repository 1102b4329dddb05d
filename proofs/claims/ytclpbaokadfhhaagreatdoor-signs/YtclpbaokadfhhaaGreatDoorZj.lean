import Derived.Test.YtclpbaokadfhhaaGreatDoorRp6
import Derived.Test.YtclpbaokadfhhaaGreatDoorZx
set_option maxRecDepth 100000
set_option maxHeartbeats 4000000
namespace Go.Proofs.YtclpbaokadfhhaaGreatDoor
open Go.RowKit
namespace Rp
def nil4:Pn:=⟨Fd.zN,Fd.zN,Fd.zN,Fd.zN⟩
theorem nil4_row:row nil4=Z64:=by decide
theorem none16_good:Fd.Good Fd.zN:=⟨rfl,fun i=>by have:=Fd.AA 16 i;unfold Fd.zN;rw[this];omega⟩
theorem nil4_fine:Fine nil4:=⟨none16_good,none16_good,none16_good,none16_good⟩
theorem Fine.of{x y z t:List Int}(hx:Fd.Good x)(hy:Fd.Good y)(hz:Fd.Good z)(ht:Fd.Good t):Fine ⟨x,y,z,t⟩:=⟨hx,hy,hz,ht⟩
def pickf(o1 o2 bt:Bool)(a b:Pn):Option Pn:=if o1=bt then some a else if o2=bt then some b else none
theorem pickf_fine{o1 o2 bt:Bool}{a b p:Pn}(ha:Fine a)(hb:Fine b)(h:pickf o1 o2 bt a b=some p):Fine p:=by
 unfold pickf at h;split at h
 ·injection h with h;subst h;exact ha
 ·split at h
  ·injection h with h;subst h;exact hb
  ·cases h
def fin(x y:List Int)(bt:Bool):Option Pn:=
 pickf (Fd.odd x) (Fd.odd (Fd.minus (Fd.small 0) x)) bt ⟨x,y,Fd.small 1,Fd.by_ x y⟩ ⟨Fd.minus (Fd.small 0) x,y,Fd.small 1,Fd.by_ (Fd.minus (Fd.small 0) x) y⟩
def low(s:ByteArray):List UInt8:=s.data.toList.set 31 (s.data.toList.getD 31 0%128)
def Bc(s:ByteArray):Bool:=decide ((128:Int)≤((s.data.toList.getD 31 0).toNat:Int))
def ofW(y:List Int):List Int:=Fd.by_ (Fd.minus (Fd.by_ y y) (Fd.small 1)) (Fd.inv (Fd.plus (Fd.by_ factor (Fd.by_ y y)) (Fd.small 1)))
def ofX(y:List Int):List Int:=Fd.pow (ofW y) (Fd.ones [0] 252)
def yp(y:List Int):List Int:=Fd.by_ (ofX y) (Fd.pow (Fd.small 2) (Fd.ones [0,1,1] 253))
def ofB(s:ByteArray):Option Pn:=
 if Fd.told (Fd.num s)=low s then
  if Fd.yr (Fd.by_ (ofX (Fd.num s)) (ofX (Fd.num s))) (ofW (Fd.num s))=true then fin (ofX (Fd.num s)) (Fd.num s) (Bc s)
  else if Fd.yr (Fd.by_ (yp (Fd.num s)) (yp (Fd.num s))) (ofW (Fd.num s))=true then fin (yp (Fd.num s)) (Fd.num s) (Bc s)else none
 else none
def get(o:Option Pn):Pn:=o.getD nil4
def val(o:Option Pn):Value:= .tuple #[.agg (Ns (row (get o))),.bool o.isSome]
theorem val_mk(x y z t:List Int):val (some ⟨x,y,z,t⟩)= .tuple #[.agg (Ns (qt x y z t)),.bool true]:=rfl
theorem zS:val none= .tuple #[.agg (Ns Z64),.bool false]:=by rw[←nil4_row];rfl
theorem pickf_val(o1 o2 bt:Bool)(x y z t x' y' z' t':List Int):(o1=bt→val (pickf o1 o2 bt ⟨x,y,z,t⟩ ⟨x',y',z',t'⟩)= .tuple #[.agg (Ns (qt x y z t)),.bool true])∧(¬o1=bt→o2=bt→val (pickf o1 o2 bt ⟨x,y,z,t⟩ ⟨x',y',z',t'⟩)= .tuple #[.agg (Ns (qt x' y' z' t')),.bool true])∧(¬o1=bt→ ¬o2=bt→val (pickf o1 o2 bt ⟨x,y,z,t⟩ ⟨x',y',z',t'⟩)= .tuple #[.agg (Ns Z64),.bool false]):=by
 unfold pickf;refine⟨fun h=> ?_,fun h h2=> ?_,fun h h2=> ?_⟩
 ·rw[if_pos h];exact val_mk _ _ _ _
 ·rw[if_neg h,if_pos h2];exact val_mk _ _ _ _
 ·rw[if_neg h,if_neg h2];exact zS
theorem ofW_good(y:List Int)(hy:Fd.Good y):Fd.Good (ofW y):=by
 have yy:=Fd.tN _ _ hy hy;exact Fd.tN _ _ (Fd.tO _ _ yy zj) (Fd.uv _ (Fd.tS _ _ (Fd.tN _ _ ur yy) zj))
theorem ofX_good(y:List Int)(hy:Fd.Good y):Fd.Good (ofX y):=Fd.xu _ _ (ofW_good y hy)
theorem zH:Fd.Good (Fd.small 2):=Fd.vu 2 (by omega) (by omega)
theorem ofX2_good(y:List Int)(hy:Fd.Good y):Fd.Good (yp y):=Fd.tN _ _ (ofX_good y hy) (Fd.xu _ _ zH)
theorem fin_fine(x y:List Int)(bt:Bool)(hx:Fd.Good x)(hy:Fd.Good y)(p:Pn)(h:fin x y bt=some p):Fine p:=by
 have hn:=Fd.tO _ _ wF hx;exact pickf_fine (Fine.of hx hy zj (Fd.tN _ _ hx hy)) (Fine.of hn hy zj (Fd.tN _ _ hn hy)) h
theorem num_good(s:ByteArray):Fd.Good (Fd.num s):=(Fd.zc s).good
theorem ifs_fine{a b c:Prop} [Decidable a] [Decidable b] [Decidable c]{u v:Option Pn}{p:Pn}(hu:u=some p→Fine p)(hv:v=some p→Fine p)(h:(if a then if b then u else if c then v else none else none)=some p):Fine p:=by
 split at h
 ·split at h
  ·exact hu h
  ·split at h
   ·exact hv h
   ·cases h
 ·cases h
theorem ofB_fine(s:ByteArray)(p:Pn)(h:ofB s=some p):Fine p:=by
 have hy:=num_good s;exact ifs_fine (fin_fine _ _ _ (ofX_good _ hy) hy p) (fin_fine _ _ _ (ofX2_good _ hy) hy p) h
theorem get_fine(s:ByteArray):Fine (get (ofB s)):=by
 unfold get;cases h:ofB s with
 |none=>exact nil4_fine
 |some p=>exact ofB_fine s p h
end Rp
theorem jd(s:ByteArray)(hs:s.size=32)(w:World):
  Rw 86 #[.string s] w (Rp.val (Rp.ofB s)):=by
 have hy:=Rp.num_good s;have yy:=Fd.tN _ _ hy hy;have gm:=Fd.tO _ _ yy Rp.zj;have gd:=Fd.tN _ _ Rp.ur yy;have gv:=Fd.tS _ _ gd Rp.zj;have gi:=Fd.uv _ gv;have gw:=Rp.ofW_good _ hy;have gx:=Rp.ofX_good _ hy;have gx2:=Rp.ofX2_good _ hy;have gxx:=Fd.tN _ _ gx gx;have gxx2:=Fd.tN _ _ gx2 gx2;have gn:=Fd.tO _ _ Rp.wF gx;have gn2:=Fd.tO _ _ Rp.wF gx2;have gt:=Fd.tN _ _ gx hy;have gtn:=Fd.tN _ _ gn hy;have gt2:=Fd.tN _ _ gx2 hy;have gtn2:=Fd.tN _ _ gn2 hy;have gp:=Fd.xu (Fd.small 2) (Fd.ones [0,1,1] 253) Rp.zH;have Cf: ∀x bt,(Fd.odd x=bt→Rp.val (Rp.fin x (Fd.num s) bt)= .tuple #[.agg (Ns (Rp.qt x (Fd.num s) (Fd.small 1) (Fd.by_ x (Fd.num s)))),.bool true])∧(¬Fd.odd x=bt→Fd.odd (Fd.minus (Fd.small 0) x)=bt→Rp.val (Rp.fin x (Fd.num s) bt)= .tuple #[.agg (Ns (Rp.qt (Fd.minus (Fd.small 0) x) (Fd.num s) (Fd.small 1) (Fd.by_ (Fd.minus (Fd.small 0) x) (Fd.num s)))),.bool true])∧(¬Fd.odd x=bt→ ¬Fd.odd (Fd.minus (Fd.small 0) x)=bt→Rp.val (Rp.fin x (Fd.num s) bt)= .tuple #[.agg (Ns Rp.Z64),.bool false]):=fun x bt=>by
  exact Rp.pickf_val _ _ _ _ _ _ _ _ _ _ _
 refine mJ s (Fd.num s) (Fd.by_ (Fd.num s) (Fd.num s)) Rp.factor (Fd.small 1) (Fd.minus (Fd.by_ (Fd.num s) (Fd.num s)) (Fd.small 1)) (Fd.by_ Rp.factor (Fd.by_ (Fd.num s) (Fd.num s))) (Fd.plus (Fd.by_ Rp.factor (Fd.by_ (Fd.num s) (Fd.num s))) (Fd.small 1)) (Fd.inv (Fd.plus (Fd.by_ Rp.factor (Fd.by_ (Fd.num s) (Fd.num s))) (Fd.small 1)))
  (Rp.ofW (Fd.num s)) (Rp.ofX (Fd.num s)) (Fd.by_ (Rp.ofX (Fd.num s)) (Rp.ofX (Fd.num s))) (Fd.small 2) (Fd.pow (Fd.small 2) (Fd.ones [0,1,1] 253)) (Rp.yp (Fd.num s)) (Fd.by_ (Rp.yp (Fd.num s)) (Rp.yp (Fd.num s))) (Fd.small 0) (Fd.ones [0] 252) (Fd.ones [0,1,1] 253)
  (Fd.minus (Fd.small 0) (Rp.ofX (Fd.num s))) (Fd.by_ (Rp.ofX (Fd.num s)) (Fd.num s)) (Fd.by_ (Fd.minus (Fd.small 0) (Rp.ofX (Fd.num s))) (Fd.num s)) (Fd.minus (Fd.small 0) (Rp.yp (Fd.num s))) (Fd.by_ (Rp.yp (Fd.num s)) (Fd.num s)) (Fd.by_ (Fd.minus (Fd.small 0) (Rp.yp (Fd.num s))) (Fd.num s))
  (Fd.told (Fd.num s)) (Fd.yr (Fd.by_ (Rp.ofX (Fd.num s)) (Rp.ofX (Fd.num s))) (Rp.ofW (Fd.num s))) (Fd.yr (Fd.by_ (Rp.yp (Fd.num s)) (Rp.yp (Fd.num s))) (Rp.ofW (Fd.num s))) (Rp.Bc s) (Fd.odd (Rp.ofX (Fd.num s))) (Fd.odd (Fd.minus (Fd.small 0) (Rp.ofX (Fd.num s)))) (Fd.odd (Rp.yp (Fd.num s))) (Fd.odd (Fd.minus (Fd.small 0) (Rp.yp (Fd.num s))))
  (Rp.val (Rp.ofB s)) w hs hy.1 yy.1 Rp.ur.1 rfl gm.1 gv.1 gw.1 gx.1 gx2.1 gn.1 gn2.1 gt.1 gtn.1 gt2.1 gtn2.1 (by unfold Rp.Bc;with_reducible rfl) (fun h=> ?_) (fun h h1=> ?_) (fun h h1 h2=> ?_) (fun h h1 h2=> ?_)
  (fun wx v h=>nV [0] 252 252 rfl (by omega) (by decide) (by decide) wx v h) (fun wx v h=>nV [0,1,1] 253 253 rfl (by omega) (by decide) (by decide) wx v h)
  (fun wx v h=>lx _ _ gw (by rw[Fd.ones_length _ _ (by decide)];omega) wx v h) (fun wx v h=>lx _ _ Rp.zH (by rw[Fd.ones_length _ _ (by decide)];omega) wx v h)
  (fun wx=>gZ s wx hs) (fun wx=>iC _ hy wx) (fun wx=>aI _ _ hy hy wx) (fun wx=>gQ wx) (fun wx=>bj 1 wx) (fun wx=>aR _ _ yy Rp.zj wx) (fun wx=>aI _ _ Rp.ur yy wx) (fun wx=>bE _ _ gd Rp.zj wx) (fun wx=>cq _ wx gv) (fun wx=>aI _ _ gm gi wx)
  (fun wx=>aI _ _ gx gx wx) (fun wx=>nT _ _ gxx gw wx) (fun wx=>bj 2 wx) (fun wx=>aI _ _ gx gp wx) (fun wx=>aI _ _ gx2 gx2 wx) (fun wx=>nT _ _ gxx2 gw wx) (fun wx=>bj 0 wx)
  (fun wx=>iD _ gx wx) (fun wx=>aR _ _ Rp.wF gx wx) (fun wx=>iD _ gn wx) (fun wx=>aI _ _ gx hy wx) (fun wx=>aI _ _ gn hy wx)
  (fun wx=>iD _ gx2 wx) (fun wx=>aR _ _ Rp.wF gx2 wx) (fun wx=>iD _ gn2 wx) (fun wx=>aI _ _ gx2 hy wx) (fun wx=>aI _ _ gn2 hy wx)
 ·have e:Rp.ofB s=none:=by unfold Rp.ofB;exact if_neg h
  rw[e];exact Rp.zS
 ·have e:Rp.ofB s=Rp.fin (Rp.ofX (Fd.num s)) (Fd.num s) (Rp.Bc s):=by unfold Rp.ofB;rw[if_pos (show Fd.told (Fd.num s)=Rp.low s from h),if_pos h1]
  rw[e];exact Cf _ _
 ·have e:Rp.ofB s=Rp.fin (Rp.yp (Fd.num s)) (Fd.num s) (Rp.Bc s):=by unfold Rp.ofB;rw[if_pos (show Fd.told (Fd.num s)=Rp.low s from h),if_neg (by rw[h1];decide),if_pos h2]
  rw[e];exact Cf _ _
 ·have e:Rp.ofB s=none:=by unfold Rp.ofB;rw[if_pos (show Fd.told (Fd.num s)=Rp.low s from h),if_neg (by rw[h1];decide),if_neg (by rw[h2];decide)]
  rw[e];exact Rp.zS
namespace Rp
def xj:List Int:=Fd.by_ (Fd.small 4) (Fd.inv (Fd.small 5))
def base:Pn:=get (ofB ⟨(Fd.told xj).toArray⟩)
theorem Ao(n:Int)(h0:0≤n)(h1:n≤5):Fd.Good (Fd.small n):=Fd.vu n (by omega) (by omega)
theorem baseY_good:Fd.Good xj:=Fd.tN _ _ (Ao 4 (by omega) (by omega)) (Fd.uv _ (Ao 5 (by omega) (by omega)))
theorem base_fine:Fine base:=get_fine _
end Rp
theorem ka(w:World):Rw 39 #[] w (.agg (Ns (Rp.row Rp.base))):=by
 have hz:=bC;have hz2:=Rp.xz;have H1:Hid (Rv 81 #[.int .i64 4] (.agg (Ns (Fd.small 4)))):=fun wx=>bj 4 wx
 have H2:Hid (Rv 81 #[.int .i64 5] (.agg (Ns (Fd.small 5)))):=fun wx=>bj 5 wx
 have g4:=Rp.Ao 4 (by omega) (by omega);have g5:=Rp.Ao 5 (by omega) (by omega);have H3:Hid (Rv 85 #[.agg (Ns (Fd.small 5))] (.agg (Ns (Fd.inv (Fd.small 5))))):=fun wx=>cq _ wx g5
 have H4:Hid (Rv 84 #[.agg (Ns (Fd.small 4)),.agg (Ns (Fd.inv (Fd.small 5)))] (.agg (Ns Rp.xj))):=fun wx=>aI _ _ g4 (Fd.uv _ g5) wx
 have H5:Hid (Rv 87 #[.agg (Ns Rp.xj)] (.string ⟨(Fd.told Rp.xj).toArray⟩)):=fun wx=>iC _ Rp.baseY_good wx
 have H6:Hid (Rv 86 #[.string ⟨(Fd.told Rp.xj).toArray⟩] (.tuple #[.agg (Ns (Rp.row Rp.base)),.bool (Rp.ofB ⟨(Fd.told Rp.xj).toArray⟩).isSome])):=fun wx=>jd _ (by have:=Fd.us Rp.xj;exact this) wx
 have sB:(Ns (Rp.row Rp.base)).size=64:=by rw[aK,Rp.base_fine.row]
 have sY:(Ns Rp.xj).size=16:=by rw[aK,Rp.baseY_good.1]
 generalize (Rp.ofB ⟨(Fd.told Rp.xj).toArray⟩).isSome=ok at H6;generalize Rp.row Rp.base=B at H6 sB⊢;generalize (⟨(Fd.told Rp.xj).toArray⟩:ByteArray)=T at H5 H6;generalize Rp.xj=Y at H4 H5 sY;generalize Fd.inv (Fd.small 5)=I5 at H3 H4;generalize Fd.small 5=S5 at H2 H3;generalize Fd.small 4=S4 at H1 H4;clear g4 g5;have sZ:=Rp.wR;generalize Rp.Z64=ZO at hz2 sZ;have sZ':=Nz sZ;have hX:WD w w.heap.size [(w.heap.size,Ns ZO,61)] (w.alloc (.cells (Ns ZO) 61)):=(WD.start (w:=w)).new (Ns ZO) 61;go_enter Tryz.func39,Tryz.ntmps39;go_wp2_with fail;generalize w.alloc (.cells (Ns ZO) 61)=w1 at hX⊢;refine gv H1 fun x1 k1=> ?_
 replace hX:=hX.keep k1;clear k1;go_wp2_with fail;refine gv H2 fun x2 k2=> ?_
 replace hX:=hX.keep k2;clear k2;go_wp2_with fail;refine gv H3 fun x3 k3=> ?_
 replace hX:=hX.keep k3;clear k3;go_wp2_with fail;refine gv H4 fun x4 k4=> ?_
 replace hX:=hX.keep k4;clear k4;have hN:=hX.new (Ns Fd.zN) 59;have g5:=hN.gt 0 rfl;replace hX:WD w (w.heap.size) [(x4.heap.size,Ns Y,59),(w.heap.size,Ns ZO,61)] ((x4.alloc (.cells (Ns Fd.zN) 59)).setRow x4.heap.size (Ns Y)):=hN.over 0 rfl (Ns Y);have g6:=hX.gt 0 rfl;go_wp2_with (first
  |(refine stN rfl rfl x4.heap.size rfl rfl g5 sY rfl ?_)
  |(refine ldN rfl rfl (x4.heap.size) rfl g6 sY ?_))
 clear hN g5 g6;generalize (x4.alloc (.cells (Ns Fd.zN) 59)).setRow x4.heap.size (Ns Y)=v7 at hX⊢;generalize x4.heap.size=q1 at hX⊢;refine gv H5 fun x8 k8=> ?_
 replace hX:=hX.keep k8;clear k8;go_wp2_with fail;refine gv H6 fun x9 k9=> ?_
 replace hX:=hX.keep k9;clear k9;have hN:=hX.new (Ns ZO) 61;have g10:=hN.gt 0 rfl;replace hX:WD w (w.heap.size) [(x9.heap.size,Ns B,61),(q1,Ns Y,59),(w.heap.size,Ns ZO,61)] ((x9.alloc (.cells (Ns ZO) 61)).setRow x9.heap.size (Ns B)):=hN.over 0 rfl (Ns B);have g11:=hX.gt 0 rfl;have g12:=hX.gt 2 rfl;replace hX:WD w (w.heap.size) [(x9.heap.size,Ns B,61),(q1,Ns Y,59),(w.heap.size,Ns B,61)] (((x9.alloc (.cells (Ns ZO) 61)).setRow x9.heap.size (Ns B)).setRow (w.heap.size) (Ns B)):=hX.over 2 rfl (Ns B);go_wp2_with (first
  |(refine wpList_store_row rfl 61 _ _ rfl x9.heap.size _ rfl rfl 61 _ g10 (by rw[sB];exact Tryz.infoP64) (by rw[sB,sZ']) (aN _) ?_)
  |(refine ld t61 rfl rfl (x9.heap.size) rfl g11 sB ?_)
  |(refine wpList_store_row rfl 61 _ _ rfl (w.heap.size) _ rfl rfl 61 _ g12 (by rw[sB];exact Tryz.infoP64) (by rw[sB,sZ']) (aN _) ?_))
 clear hN g10 g11 g12;generalize ((x9.alloc (.cells (Ns ZO) 61)).setRow x9.heap.size (Ns B)).setRow (w.heap.size) (Ns B)=v13 at hX⊢;generalize x9.heap.size=q2 at hX⊢;refine bodyPost_ret (v:= .agg (Ns B)) ?_ rfl ⟨rfl,hX.below⟩;exact rr t61 rfl rfl (hX.get 2 rfl) sB
namespace Rp
def half(s:ByteArray):ByteArray:=(Sha.OfB Sha.K s).extract 0 32
theorem zI(s:ByteArray):(half s).size=32:=by unfold half;rw[ByteArray.size_extract,Sha.uh];rfl
def secret(s:ByteArray):ByteArray:=⟨(xh (half s).data.toList).toArray⟩
theorem xI(s:ByteArray):(secret s).size=32:=by
 show(xh (half s).data.toList).toArray.size=32
 have h:(half s).data.toList.length=32:=by rw[←zI s];simp
 rw[List.size_toArray,xg,h]
def uq(s:ByteArray):ByteArray:=⟨(bytes (tU (secret s) base)).toArray⟩
theorem zk(s:ByteArray):(uq s).size=32:=by
 show(bytes (tU (secret s) base)).toArray.size=32
 rw[List.size_toArray,bytes_length]
def idR(s:ByteArray):ByteArray×Int:=if s.size=32 then(uq s,0)else (⟨#[]⟩,1)
end Rp
theorem cB(s:ByteArray)(w:World):
  Rw 21 #[.string s] w (.tuple #[.string (Rp.idR s).1,.int .i64 (Rp.idR s).2]):=by
 by_cases h:s.size=32
 ·have e1:Rp.idR s=(Rp.uq s,0):=by unfold Rp.idR;rw[if_pos h]
  rw[e1];clear e1;have hz2:=Rp.xz;have d1:((s.size:Int)==32)=true:=by rw[beq_iff_eq];omega
  have H1:Hid (Rv 36 #[.string s] (.string (Sha.OfB Sha.K s))):=fun wx=>aT s wx (by omega)
  have hx:Hid ((Sha.OfB Sha.K s).extract 0 32=Rp.half s):=rfl;have hsz:=Sha.uh Sha.K s;have H2:Hid (Rv 38 #[.string (Rp.half s)] (.string (Rp.secret s))):=fun wx=>fu _ wx (Rp.zI s)
  have H3:Hid (Rv 39 #[] (.agg (Ns (Rp.row Rp.base)))):=fun wx=>ka wx
  have H4:Hid (Rv 37 #[.string (Rp.secret s),.agg (Ns (Rp.row Rp.base))] (.agg (Ns (Rp.row (Rp.tU (Rp.secret s) Rp.base))))):=fun wx=>dC _ _ (Rp.xI s) Rp.base_fine wx
  have hf:=Rp.vQ (Rp.secret s) Rp.base Rp.base_fine;have H5:Hid (Rv 40 #[.agg (Ns (Rp.row (Rp.tU (Rp.secret s) Rp.base)))] (.string (Rp.uq s))):=fun wx=>dM _ hf wx
  have sR:(Ns (Rp.row (Rp.tU (Rp.secret s) Rp.base))).size=64:=by rw[aK,hf.row]
  clear hf;generalize Rp.row (Rp.tU (Rp.secret s) Rp.base)=R at H4 H5 sR;generalize Rp.row Rp.base=B at H3 H4;generalize Rp.uq s=I at H5⊢;generalize Rp.secret s=C at H2 H4;generalize Rp.half s=L at hx H2;generalize Sha.OfB Sha.K s=D at H1 hx hsz;have sZ:=Rp.wR;generalize Rp.Z64=ZO at hz2 sZ;have sZ':=Nz sZ;go_enter Tryz.func21,Tryz.ntmps21;go_wp2_with fail;refine gv H1 fun w1 k1=> ?_
  have hL:=hx.out;go_wp2_with fail;refine gv H2 fun w2 k2=> ?_
  clear hL;go_wp2_with fail;refine gv H3 fun w3 k3=> ?_
  go_wp2_with fail;refine gv H4 fun w4 k4=> ?_
  have bel:Below w.heap.size w w4:=k1.trans ((k2.trans ((k3.trans (k4.mono k3.size)).mono k2.size)).mono k1.size);clear k1 k2 k3 k4;have hN:=Blk.new w4 (Ns ZO) 61;have gz:=hN;unfold Blk at gz;have h2:=hN.row (Ns R);have g2:=h2;unfold Blk at g2;have BS:Below w.heap.size w ((w4.alloc (.cells (Ns ZO) 61)).setRow w4.heap.size (Ns R)):=below_setRow (bel.alloc bel.size _) bel.size _;go_wp2_with (first
   |(refine wpList_store_row rfl 61 _ _ rfl w4.heap.size _ rfl rfl 61 _ gz (by rw[sR];exact Tryz.infoP64) (by rw[sR,sZ']) (aN _) ?_)
   |(refine ld t61 rfl rfl w4.heap.size rfl g2 sR ?_))
  clear gz g2 h2 hN;generalize (w4.alloc (.cells (Ns ZO) 61)).setRow w4.heap.size (Ns R)=w5 at BS⊢;refine gv H5 fun w6 k6=> ?_
  go_wp2;go_ret2;exact⟨rfl,BS.trans (k6.mono BS.size)⟩
 ·have e1:Rp.idR s=(⟨#[]⟩,1):=by unfold Rp.idR;rw[if_neg h]
  rw[e1];clear e1;have d1:((s.size:Int)==32)=false:=by rw[beq_eq_false_iff_ne];omega
  go_enter Tryz.func21,Tryz.ntmps21;go_wp2;go_ret2;exact⟨rfl,Below.refl _ _⟩
end Go.Proofs.YtclpbaokadfhhaaGreatDoor
