import Derived.Test.YtclpbaokadfhhaaGreatDoorXe
import Derived.Test.YtclpbaokadfhhaaGreatDoorXm
import Derived.Test.YtclpbaokadfhhaaGreatDoorXi
import Derived.Test.YtclpbaokadfhhaaGreatDoorXl
set_option maxRecDepth 100000
set_option maxHeartbeats 8000000
namespace Go.Proofs.YtclpbaokadfhhaaGreatDoor
open Go.RowKit
def dw(x:UInt8)(r:Nat):BitVec 64:=BitVec.ofNat 64 (x.toNat/2^r%2)
theorem o6(x:UInt8)(r:Nat):bits BinOp.and IntKind.u64 (IntKind.u64.wrap ((x.toNat:Int)/2^r)) 1=U (dw x r):=by
 have h1:x.toNat/2^r<256:=Nat.lt_of_le_of_lt (Nat.div_le_self _ _) x.toNat_lt;have e1:(x.toNat:Int)/2^r=((x.toNat/2^r:Nat):Int):=by simp
 unfold dw;rw[e1];generalize x.toNat/2^r=n at h1;have e2:IntKind.u64.wrap (n:Int)=(n:Int):=by rw[IntKind.wrap_u64];omega
 rw[e2];have e3:(n:Int)=U (BitVec.ofNat 64 n):=dz n (by omega);have e4:(1:Int)=U 1:=rfl;rw[e3,e4,bv];unfold U;congr 1
 rw[BitVec.toNat_and,BitVec.toNat_ofNat,BitVec.toNat_ofNat,Nat.mod_eq_of_lt (by omega),Nat.mod_eq_of_lt (by omega)];show n&&&1=n%2
 exact Nat.and_one_is_mod n
structure Lad where
 a:List (BitVec 64)
 b:List (BitVec 64)
 c:List (BitVec 64)
 d:List (BitVec 64)
def Lad.ok(s:Lad):Prop:=s.a.length=5∧s.b.length=5∧s.c.length=5∧s.d.length=5
def Lad.flat(s:Lad):List (BitVec 64):=lad s.a s.b s.c s.d
def Lad.swap(s:Lad)(bit:BitVec 64):Lad:=⟨(Ff.swap bit s.a s.c).1,(Ff.swap bit s.b s.d).1,(Ff.swap bit s.a s.c).2,(Ff.swap bit s.b s.d).2⟩
def Lad.step(V:List (BitVec 64))(s:Lad):Lad:=⟨Ff.wj s.a s.b,Ff.wi s.a s.b,Ff.wh s.a s.b s.c s.d,Ff.vZ s.a s.b s.c s.d V⟩
theorem Lad.swap_ok{s:Lad}(h:s.ok)(bit:BitVec 64):(s.swap bit).ok:=by
 obtain⟨h1,h2,h3,h4⟩:=h;refine⟨?_,?_,?_,?_⟩
 ·show(Ff.uc (-bit) s.a s.c 5).1.length=5
  rw[(Ff.tQ _ _ _ _).1,h1]
 ·show(Ff.uc (-bit) s.b s.d 5).1.length=5
  rw[(Ff.tQ _ _ _ _).1,h2]
 ·show(Ff.uc (-bit) s.a s.c 5).2.length=5
  rw[(Ff.tQ _ _ _ _).2,h3]
 ·show(Ff.uc (-bit) s.b s.d 5).2.length=5
  rw[(Ff.tQ _ _ _ _).2,h4]
theorem jA(A B:List (BitVec 64)):(Ff.wj A B).length=5:=by unfold Ff.wj;exact Ff.times_length _ _
theorem jz(A B:List (BitVec 64)):(Ff.wi A B).length=5:=by unfold Ff.wi;exact Ff.times_length _ _
theorem jy(A B C D:List (BitVec 64)):(Ff.wh A B C D).length=5:=by unfold Ff.wh;exact Ff.times_length _ _
theorem jx(A B C D V:List (BitVec 64)):(Ff.vZ A B C D V).length=5:=by unfold Ff.vZ;exact Ff.times_length _ _
theorem Lad.step_ok(V:List (BitVec 64))(s:Lad):(s.step V).ok:=by
 unfold Lad.step Lad.ok;dsimp only;exact⟨jA s.a s.b,jz s.a s.b,jy s.a s.b s.c s.d,jx s.a s.b s.c s.d V⟩
theorem Lad.flat_length{s:Lad}(h:s.ok):s.flat.length=20:=bT h.1 h.2.1 h.2.2.1 h.2.2.2
def Lad.first(V:List (BitVec 64)):Lad:=⟨[1,0,0,0,0],[0,0,0,0,0],V,[1,0,0,0,0]⟩
def Lad.to(key:List UInt8)(V:List (BitVec 64)):Nat→Lad
 |0=>Lad.first V
 |n+1=>(((Lad.to key V n).swap (dw (key.getD ((254 - n)/8) 0) ((254 - n)%8))).step V).swap (dw (key.getD ((254 - n)/8) 0) ((254 - n)%8))
theorem Lad.to_ok(key:List UInt8)(V:List (BitVec 64))(hV:V.length=5): ∀n,(Lad.to key V n).ok
 |0=>⟨rfl,rfl,hV,rfl⟩
 |_+1=>Lad.swap_ok (Lad.step_ok _ _) _
def ci(secret:List UInt8)(V:List (BitVec 64)):List UInt8:=
 Ff.bytes (Ff.times (Lad.to (aE secret) V 255).a (Ff.tX (Lad.to (aE secret) V 255).b))
theorem oo{s:Lad}(h:s.ok)(bit:BitVec 64)(w:World):
  Rw 109 #[.agg (Ws s.flat),.int .u64 (U bit)] w (.agg (Ws (s.swap bit).flat)):=by
 have:=om s.a s.b s.c s.d bit w h.1 h.2.1 h.2.2.1 h.2.2.2;unfold Lad.flat Lad.swap;dsimp only;exact this
theorem ta{s:Lad}(h:s.ok)(V:List (BitVec 64))(hV:V.length=5)(w:World):
  Rw 110 #[.agg (Ws s.flat),.agg (Ws V)] w (.agg (Ws (s.step V).flat)):=by
 have:=oq s.a s.b s.c s.d V w h.1 h.2.1 h.2.2.1 h.2.2.2 hV;unfold Lad.flat Lad.step;dsimp only;exact this
theorem mz(V:List (BitVec 64))(hV:V.length=5)(w:World):
  (Instr.build 115 #[(0,.agg #[.int .u64 1,.int .u64 0,.int .u64 0,.int .u64 0,.int .u64 0]),(2,.agg (Ws V)),(3,.agg #[.int .u64 1,.int .u64 0,.int .u64 0,.int .u64 0,.int .u64 0])]).run Tryz.prog w= .ok (.agg (Ws (Lad.first V).flat)) w:=by
 obtain⟨a0,a1,a2,a3,a4,rfl⟩:=Ff.uz V hV;exact run_build w _ _ _ (by kernel_rfl)
theorem oY(w:World):(Instr.build 69 #[(0,.int .u64 1)]).run Tryz.prog w= .ok (.agg #[.int .u64 1,.int .u64 0,.int .u64 0,.int .u64 0,.int .u64 0]) w:=run_build w _ _ _ (by kernel_rfl)
theorem fG(s:ByteArray)(V:List (BitVec 64))(w:World)(hs:s.size=32)(hV:V.length=5):
  Rw 50 #[.string s,.agg (Ws V)] w (.string ⟨(ci s.data.toList V).toArray⟩):=by
 have hz:=jq;have sV:=Wz hV;have hlen:s.data.toList.length=32:=by rw[←hs];simp
 have HC:Hid (Rv 108 #[.string s] (.string ⟨(aE s.data.toList).toArray⟩)):=fun wx=>gk s wx hs
 have HR:Hid (ci s.data.toList V=Ff.bytes (Ff.times (Lad.to (aE s.data.toList) V 255).a (Ff.tX (Lad.to (aE s.data.toList) V 255).b))):=by
  have:ci s.data.toList V=Ff.bytes (Ff.times (Lad.to (aE s.data.toList) V 255).a (Ff.tX (Lad.to (aE s.data.toList) V 255).b)):=rfl;exact this
 generalize ci s.data.toList V=R at HR⊢;have hkl:(aE s.data.toList).length=32:=by rw[cS,hlen]
 generalize aE s.data.toList=key at HC HR hkl;have hks:(⟨key.toArray⟩:ByteArray).size=32:=hkl;have hkd:(⟨key.toArray⟩:ByteArray).data.toList=key:=rfl;generalize (⟨key.toArray⟩:ByteArray)=ks at HC hks hkd;have B2:Hid (∀wx:World,(Instr.build 115 #[(0,.agg #[.int .u64 1,.int .u64 0,.int .u64 0,.int .u64 0,.int .u64 0]),(2,.agg (Ws V)),(3,.agg #[.int .u64 1,.int .u64 0,.int .u64 0,.int .u64 0,.int .u64 0])]).run Tryz.prog wx= .ok (.agg (Ws (Lad.first V).flat)) wx):=mz V hV;have hFl:(Lad.first V).flat.length=20:=Lad.flat_length (Lad.to_ok key V hV 0);have hFs:=Wz hFl;have sZ:(lad [0,0,0,0,0] [0,0,0,0,0] [0,0,0,0,0] [0,0,0,0,0]).length=20:=rfl;generalize lad [0,0,0,0,0] [0,0,0,0,0] [0,0,0,0,0] [0,0,0,0,0]=ZZ at hz sZ;have sZ':=Wz sZ;generalize hF:(Lad.first V).flat=FF at B2 hFl hFs;replace hF:Hid ((Lad.first V).flat=FF):=hF;have hb1:Blk (w.alloc (.cells (Ws V) 69)) w.heap.size (Ws V) 69:=Blk.new w _ _;have BR:Below w.heap.size w (w.alloc (.cells (Ws V) 69)):=bR.alloc nR _;go_enter Tryz.func50,Tryz.ntmps50;go_wp2_with fail;generalize w.alloc (.cells (Ws V) 69)=w1 at hb1 BR⊢;refine gv HC fun w2 k2=> ?_
 clear HC;replace hb1:=hb1.keep k2;replace BR:=BR.trans (k2.mono BR.size);clear k2;have g1:=hb1;unfold Blk at g1;have hlt1:w.heap.size<w2.heap.size:=hb1.lt;have g2:(w2.alloc (.cells (Ws ZZ) 115)).heap[w2.heap.size]? =some (.cells (Ws ZZ) 115 (0,0)):=Blk.new w2 _ _;have hb2:Blk (w2.alloc (.cells (Ws ZZ) 115)) w2.heap.size (Ws ZZ) 115:=Blk.new w2 _ _;have hb1':=hb1.alloc (.cells (Ws ZZ) 115);have BS:Below w.heap.size w (w2.alloc (.cells (Ws ZZ) 115)):=BR.alloc (by omega) _;go_wp2_with (first
  |(refine cH rfl 69 _ rfl [(0,.int .u64 1)] rfl _ (oY _) ?_)
  |(refine cH rfl 115 _ rfl [(0,.agg #[.int .u64 1,.int .u64 0,.int .u64 0,.int .u64 0,.int .u64 0]),(2,.agg (Ws V)),(3,.agg #[.int .u64 1,.int .u64 0,.int .u64 0,.int .u64 0,.int .u64 0])] rfl _ (B2.out _) ?_)
  |(refine ld t69 rfl rfl w.heap.size rfl g1 sV ?_)
  |(refine wpList_store_row rfl 115 _ _ rfl w2.heap.size _ rfl rfl 115 _ g2 (by rw[hFs];exact Tryz.infoL20) (by rw[hFs,sZ']) (ar _) ?_))
 have hW:WS w w.heap.size [(w2.heap.size,Ws FF,115),(w.heap.size,Ws V,69)] ((w2.alloc (.cells (Ws ZZ) 115)).setRow w2.heap.size (Ws FF)):=by
  refine⟨?_,below_setRow BS (by omega) _,?_,?_⟩
  ·intro x hx;simp only[List.mem_cons,List.not_mem_nil,or_false]at hx;rcases hx with rfl|rfl
   ·exact hb2.row _
   ·exact hb1'.other (by omega) _
  ·have:=(below_setRow BS (show w.heap.size≤w2.heap.size by omega) (Ws FF)).size;exact this
  ·intro x hx;simp only[List.mem_cons,List.not_mem_nil,or_false]at hx;rcases hx with rfl|rfl
   ·dsimp only;omega
   ·dsimp only;omega
 clear g1 g2 hb1 hb2 hb1' BR BS hz B2 hFl hFs sZ sZ';generalize (w2.alloc (.cells (Ws ZZ) 115)).setRow w2.heap.size (Ws FF)=w3 at hW⊢;rw[←hF.out]at hW;clear hF;generalize w2.heap.size=p at hW hlt1⊢;go_loopw [7] (fun c wr=> ∃n:Nat,n≤255∧c= .int .i64 (254 - (n:Int))∧WS w w.heap.size [(p,Ws (Lad.to key V n).flat,115),(w.heap.size,Ws V,69)] wr) (fun c _=>((intOf c)+1).toNat)
 case atStart=>exact⟨0,by omega,rfl,hW⟩
 case round=>
  clear hW;obtain⟨n,hn,rfl,hW⟩:=hrel;have hok:=Lad.to_ok key V hV n;by_cases hlt:n<255
  ·have HS:Hid (Lad.to key V (n+1)=(((Lad.to key V n).swap (dw (key.getD ((254 - n)/8) 0) ((254 - n)%8))).step V).swap (dw (key.getD ((254 - n)/8) 0) ((254 - n)%8))):=by
    have:Lad.to key V (n+1)=(((Lad.to key V n).swap (dw (key.getD ((254 - n)/8) 0) ((254 - n)%8))).step V).swap (dw (key.getD ((254 - n)/8) 0) ((254 - n)%8)):=by rw[Lad.to]
    exact this
   obtain⟨at0,hat⟩: ∃at0:Nat,at0=254 - n:=⟨_,rfl⟩
   rw[←hat]at HS;have hc:(254 - (n:Int))=(at0:Int):=by omega
   rw[hc];have hat2:at0≤254:=by omega
   clear hat;replace hc:Hid (254 - (n:Int)=(at0:Int)):=hc;have hix:=eM ks (at0/8) (by omega);rw[hkd]at hix;have hix2: ∀wx:World,(Instr.index 9 (.string ks) (.int .i64 ((at0:Int)/8))).run Tryz.prog wx= .ok (.int .u8 ((key.getD (at0/8) 0).toNat:Int)) wx:=by
    intro wx;have:((at0:Int)/8)=((at0/8:Nat):Int):=by omega
    rw[this];exact hix wx
   have BX:=o6 (key.getD (at0/8) 0) (at0%8);generalize key.getD (at0/8) 0=x at hix hix2 BX HS;generalize dw x (at0%8)=bit at BX HS;have i1:IntKind.i64.wrap ((at0:Int)/8)=((at0/8:Nat):Int):=by rw[IntKind.wrap_i64];omega
   have i2:(at0:Int).tmod 8=((at0%8:Nat):Int):=by rw[Int.tmod_eq_emod_of_nonneg (by omega)];omega
   have i3:(0:Int)≤(at0:Int):=by omega
   have i4:((at0%8:Nat):Int)<8:=by omega
   generalize hQ:Lad.to key V n=Q at hW hok HS;replace hQ:Hid (Lad.to key V n=Q):=hQ;have ok1:=Lad.swap_ok hok bit;have ok2:=Lad.step_ok V (Q.swap bit);have ok3:=Lad.swap_ok ok2 bit;have H1:Hid (Rv 109 #[.agg (Ws Q.flat),.int .u64 (U bit)] (.agg (Ws (Q.swap bit).flat))):=fun wx=>oo hok bit wx
   have H2:Hid (Rv 110 #[.agg (Ws (Q.swap bit).flat),.agg (Ws V)] (.agg (Ws ((Q.swap bit).step V).flat))):=fun wx=>ta ok1 V hV wx
   have H3:Hid (Rv 109 #[.agg (Ws ((Q.swap bit).step V).flat),.int .u64 (U bit)] (.agg (Ws (((Q.swap bit).step V).swap bit).flat))):=fun wx=>oo ok2 bit wx
   have sQ:(Ws Q.flat).size=20:=by rw[av,Lad.flat_length hok]
   have hR4:=Lad.flat_length ok3;generalize ((Q.swap bit).step V).swap bit=Q4 at HS H3 ok3 hR4;generalize (Q.swap bit).step V=Q3 at H2 H3 ok2;generalize Q.swap bit=Q2 at H1 H2 ok1;have lQ:Q.flat.length=20:=Lad.flat_length hok;generalize hq4:Q4.flat=F4 at H3 hR4;replace hq4:Hid (Q4.flat=F4):=hq4;generalize Q3.flat=F3 at H2 H3;generalize Q2.flat=F2 at H1 H2;generalize Q.flat=F1 at H1 hW sQ lQ;have sF4:=Wz hR4;have hwid:Hid (254 - (n:Int)=(at0:Int)):=hc;clear hc;go_wp2_with fail;refine ai (S:=WS w (w.heap.size) [(p,Ws F1,115),(w.heap.size,Ws V,69)]) (ls:= [7]) (by kernel_rfl) ?_;have hW0:WS w (w.heap.size) [(p,Ws F1,115),(w.heap.size,Ws V,69)] wr.drew:=hW.drew;clear hW;generalize World.drew wr=rd at hW0⊢;refine af 0 28 oy (fun _ h=>h.get 0 rfl) sQ hW0 ?_;refine ac 1 29 hW0 ?_;refine af 3 31 t69 (fun _ h=>h.get 1 rfl) sV hW0 ?_;refine ac 5 33 hW0 ?_;simp only[qQ];refine aj 2 fun K hK=> ?_
   go_simp;go_wp2_with (go_at_call 109;refine gv H1 fun rx0 k0=> ?_);have hW1:=hW0.keep k0;refine hK.out _ _ hW1 ?_;clear hK K k0 hW0;refine aj 4 fun K hK=> ?_
   go_simp;go_wp2_with (go_at_call 110;refine gv H2 fun rx1 k0=> ?_);have hW2:=hW1.keep k0;refine hK.out _ _ hW2 ?_;clear hK K k0 hW1;refine aj 6 fun K hK=> ?_
   go_simp;go_wp2_with (go_at_call 109;refine gv H3 fun rx2 k0=> ?_);have hW3:=hW2.keep k0;refine hK.out _ _ hW3 ?_;clear hK K k0 hW2;refine am 7 fun K hK=> ?_
   have hst:=ao (l:=F4) (hW3.get 0 rfl) (by rw[sQ,hR4]);go_simp;refine hK.out _ _ ?_;clear hK K hst;replace hW3:=hW3.upd (p) (Ws F4) 115 [(p,Ws F4,115),(w.heap.size,Ws V,69)] ⟨_,mG (i:=0) rfl⟩ (by intro x hx;simp only[List.mem_cons,List.not_mem_nil,or_false]at hx;rcases hx with rfl|rfl<;>first|exact Or.inl rfl|exact Or.inr ⟨by simp,by dsimp only;omega⟩);generalize rx2.setRow (p) (Ws F4)=ry0 at hW3⊢;refine ak ?_;go_wp2;go_roundw
   case rel=>
    refine⟨n+1,by omega,?_,?_⟩
    ·have:=hwid.out;congr 1
     omega
    ·rw[HS.out,hq4.out];exact hW3
   case measure=>
    simp[intOf]
  ·have hn5:n=255:=by omega
   subst hn5;have HR2:=HR.out;generalize Lad.to key V 255=Q at hW hok HR2;obtain⟨A,B,C,D⟩:=Q;obtain⟨hA,hB,hC,hD⟩:=hok;dsimp only at hA hB hC hD HR2;have hW2:WS w w.heap.size [(p,Ws (lad A B C D),115),(w.heap.size,Ws V,69)] wr:=hW;clear hW;have sA:=Wz hA;have sB:=Wz hB;have hI:=Ff.wL B;have J1:Hid (Rv 112 #[.agg (Ws B)] (.agg (Ws (Ff.tX B)))):=fun wx=>fE B wx hB
   have J2:Hid (Rv 111 #[.agg (Ws A),.agg (Ws (Ff.tX B))] (.agg (Ws (Ff.times A (Ff.tX B))))):=fun wx=>aD A _ wx hA hI
   have hT:=Ff.times_length A (Ff.tX B);have J3:Hid (Rv 58 #[.agg (Ws (Ff.times A (Ff.tX B)))] (.string ⟨(Ff.bytes (Ff.times A (Ff.tX B))).toArray⟩)):=fun wx=>iR _ wx hT
   generalize Ff.bytes (Ff.times A (Ff.tX B))=RB at J3 HR2;generalize Ff.times A (Ff.tX B)=TB at J2 J3 hT;generalize Ff.tX B=IB at J1 J2 hI;replace HR2:Hid (R=RB):=HR2;have hneg: ¬(0:Int)≤254 - ((255:Nat):Int):=by omega
   go_wp2_with fail;refine ai (S:=WS w (w.heap.size) [(p,Ws (lad A B C D),115),(w.heap.size,Ws V,69)]) (ls:= []) (by kernel_rfl) ?_;have hW20:WS w (w.heap.size) [(p,Ws (lad A B C D),115),(w.heap.size,Ws V,69)] wr.drew:=hW2.drew;clear hW2;generalize World.drew wr=qd at hW20⊢;refine ac 0 35 hW20 ?_;refine aa 1 36 (v:= .agg (Ws A)) hW20 ?_ ?_
   ·exact fun wx BM=>aO 69 _ rfl p 0 rfl (Ws A) _ (mf (BM.get 0 rfl)) Tryz.underlying69 rfl (by rw[sA];exact Tryz.infoF5)
   refine ac 2 37 hW20 ?_;refine aa 3 38 (v:= .agg (Ws B)) hW20 ?_ ?_
   ·exact fun wx BM=>aO 69 _ rfl p 5 rfl (Ws B) _ (me (BM.get 0 rfl) hA) Tryz.underlying69 rfl (by rw[sB];exact Tryz.infoF5)
   simp only[qQ];refine aj 4 fun K hK=> ?_
   go_simp;go_wp2_with (go_at_call 112;refine gv J1 fun qx0 k0=> ?_);have hW21:=hW20.keep k0;refine hK.out _ _ hW21 ?_;clear hK K k0 hW20;refine aj 5 fun K hK=> ?_
   go_simp;go_wp2_with (go_at_call 111;refine gv J2 fun qx1 k0=> ?_);have hW22:=hW21.keep k0;refine hK.out _ _ hW22 ?_;clear hK K k0 hW21;refine aj 6 fun K hK=> ?_
   go_simp;go_wp2_with (go_at_call 58;refine gv J3 fun qx2 k0=> ?_);have hW23:=hW22.keep k0;refine hK.out _ _ hW23 ?_;clear hK K k0 hW22;refine ac 7 4 (v:= .string ⟨RB.toArray⟩) hW23 ?_;simp only[qQ];refine ak ?_;go_wp2;go_ret;exact⟨by rw[HR2.out];rfl,hW23.below⟩
theorem of_length(s:List UInt8):(Ff.of s).length=5:=rfl
theorem mv:Ff.bytes [0,0,0,0,0]=ag 32:=by decide+kernel
theorem nH(w:World):(Instr.build 69 #[]).run Tryz.prog w= .ok (.agg (Ws [0,0,0,0,0])) w:=run_build w _ _ _ (by kernel_rfl)
def agreed(secret point:List UInt8):List UInt8:=ci secret (Ff.of point)
theorem pc(s p:ByteArray)(w:World)(hs:s.size=32)(hp:p.size=32):
  Rw 29 #[.string s,.string p] w (.tuple #[.string ⟨(agreed s.data.toList p.data.toList).toArray⟩,.bool (!(agreed s.data.toList p.data.toList==ag 32))]):=by
 have H1:Hid (Rv 57 #[.string p] (.agg (Ws (Ff.of p.data.toList)))):=fun wx=>sW p wx hp
 have H2:Hid (Rv 50 #[.string s,.agg (Ws (Ff.of p.data.toList))] (.string ⟨(agreed s.data.toList p.data.toList).toArray⟩)):=fun wx=>fG s _ wx hs (of_length _)
 have H3:Hid (Rv 58 #[.agg (Ws [0,0,0,0,0])] (.string ⟨(ag 32).toArray⟩)):=fun wx=>by
  have:=iR [0,0,0,0,0] wx rfl;rw[mv]at this;exact this
 generalize agreed s.data.toList p.data.toList=R at H2⊢;generalize Ff.of p.data.toList=V at H1 H2;generalize hz:ag 32=Z at H3⊢;replace hz:Hid (ag 32=Z):=hz;go_enter Tryz.func29,Tryz.ntmps29;go_wp2_with fail;refine gv H1 fun w1 b1=> ?_
 go_wp2_with fail;refine gv H2 fun w2 b2=> ?_
 have BS:=b1.trans (b2.mono b1.size);clear b1 b2;go_wp2_with (refine cH rfl 69 _ rfl [] rfl _ (nH _) ?_);refine gv H3 fun w3 b3=> ?_
 go_wp2;go_ret2;exact⟨rfl,BS.trans (b3.mono BS.size)⟩
def aX(s p:ByteArray):ByteArray×Int:=
 if s.size=32∧p.size=32 then(if agreed s.data.toList p.data.toList=ag 32 then(⟨#[]⟩,2)else (⟨(agreed s.data.toList p.data.toList).toArray⟩,0))else (⟨#[]⟩,1)
theorem ol(s p:ByteArray)(w:World)(hs:s.size≤140737488351232)(hp:p.size≤140737488351232):
  Rw 15 #[.string s,.string p] w (.tuple #[.string (aX s p).1,.int .i64 (aX s p).2]):=by
 have BI:Below w.heap.size w (w.alloc (.cells (Ss [s,p]) 9)):=bR.alloc nR _;have HT:=kA s p w hs hp;by_cases h:s.size=32∧p.size=32
 ·have e2:decide (¬(s.size=32∧p.size=32))=false:=by simp[h.1,h.2]
  rw[e2]at HT;replace HT:Hid (Calls Tryz.prog 24 #[.slice (some ⟨w.heap.size,0,none⟩) 2 2] (w.alloc (.cells (Ss [s,p]) 9)) fun e w'=>e= .returned (.bool false)∧w'=w.alloc (.cells (Ss [s,p]) 9)):=HT;have HU:Hid (Rv 29 #[.string s,.string p] (.tuple #[.string ⟨(agreed s.data.toList p.data.toList).toArray⟩,.bool (!(agreed s.data.toList p.data.toList==ag 32))])):=fun wx=>pc s p wx h.1 h.2
  have e1:aX s p=if agreed s.data.toList p.data.toList=ag 32 then(⟨#[]⟩,2)else (⟨(agreed s.data.toList p.data.toList).toArray⟩,0):=by unfold aX;rw[if_pos h]
  rw[e1];generalize agreed s.data.toList p.data.toList=R at HU;clear e1 e2;by_cases hR:R=ag 32
  ·have hb:(!(R==ag 32))=false:=by simp[hR]
   rw[hb]at HU;rw[if_pos hR];clear hb hR;go_enter Tryz.func15,Tryz.ntmps15;go_wp2_with fail;refine HT.out.mono ?_;rintro e w' ⟨rfl,rfl⟩;go_wp2_with fail;refine gv HU fun w2 hb2=> ?_
   go_wp2;go_ret2;exact⟨rfl,BI.trans (hb2.mono BI.size)⟩
  ·have hb:(!(R==ag 32))=true:=by simp[hR]
   rw[hb]at HU;rw[if_neg hR];clear hb hR;go_enter Tryz.func15,Tryz.ntmps15;go_wp2_with fail;refine HT.out.mono ?_;rintro e w' ⟨rfl,rfl⟩;go_wp2_with fail;refine gv HU fun w2 hb2=> ?_
   go_wp2;go_ret2;exact⟨rfl,BI.trans (hb2.mono BI.size)⟩
 ·have e2:decide (¬(s.size=32∧p.size=32))=true:=decide_eq_true h;rw[e2]at HT;replace HT:Hid (Calls Tryz.prog 24 #[.slice (some ⟨w.heap.size,0,none⟩) 2 2] (w.alloc (.cells (Ss [s,p]) 9)) fun e w'=>e= .returned (.bool true)∧w'=w.alloc (.cells (Ss [s,p]) 9)):=HT;have e1:aX s p=(⟨#[]⟩,1):=by unfold aX;rw[if_neg h]
  rw[e1];clear e1 e2 h;go_enter Tryz.func15,Tryz.ntmps15;go_wp2_with fail;refine HT.out.mono ?_;rintro e w' ⟨rfl,rfl⟩;go_wp2;go_ret2;exact⟨rfl,BI⟩
end Go.Proofs.YtclpbaokadfhhaaGreatDoor
