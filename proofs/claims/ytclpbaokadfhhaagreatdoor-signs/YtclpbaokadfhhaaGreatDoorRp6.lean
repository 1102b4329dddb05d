import Derived.Test.YtclpbaokadfhhaaGreatDoorZi
set_option maxRecDepth 100000
set_option maxHeartbeats 20000000
namespace Go.Proofs.YtclpbaokadfhhaaGreatDoor
open Go.RowKit
def Sl(l:List Int)(v:Value)(w:World):Prop:= ∃q c,v= .slice (some ⟨q,0,none⟩) l.length c∧q<w.heap.size∧ ∀i,i<l.length→w.cell? ⟨q,i,none⟩=some (.int .i64 (l.getD i 0))
theorem Sl.keep{l:List Int}{v:Value}{w w':World}(h:Sl l v w)(k:Below w.heap.size w w'):Sl l v w':=by
 obtain⟨q,c,e,hq,hc⟩:=h;exact⟨q,c,e,Nat.lt_of_lt_of_le hq k.size,fun i hi=>(k.cell (p:=⟨q,i,none⟩) hq).trans (hc i hi)⟩
theorem Sl.alloc{l:List Int}{v:Value}{w:World}(h:Sl l v w)(o:Obj):Sl l v (w.alloc o):=h.keep (bR.alloc nR o)
theorem Sl.new(w:World)(l:List Int):Sl l (.slice (some ⟨w.heap.size,0,none⟩) l.length l.length) (w.alloc (.cells (Ns l) 3)):=
 ⟨w.heap.size,_,rfl,by rw[Rp.uE];omega,fun i hi=>by rw[(Blk.new w (Ns l) 3).cell i];exact bf _ i hi⟩
theorem nV(last:List Int)(many:Nat)(m:Int)(hm:m=(many:Int))(hmany:many≤1000)(hll:last.length<many)(hl0:0<last.length)(w:World)(v:Value)(h:Sl last v w):
  Calls Tryz.prog 144 #[v,.int .i64 m] w fun e w'=> ∃v',e= .returned v'∧Sl (Fd.ones last many) v' w'∧Below w.heap.size w w':=by
 obtain⟨q,c,rfl,hq,hc⟩:=h;refine(jH last m many q c w hm hmany hll hl0 hc).mono ?_;rintro e w' ⟨g,cap,rfl,BV,hb⟩;have hl:=Fd.ones_length last many (by omega);have hlt:0<(Fd.ones last many).length:=by rw[hl];omega
 refine⟨_,rfl,⟨g,cap,by rw[hl],block_lt_of_cell (BV.cell 0 hlt),fun i hi=>BV.cell i hi⟩,hb⟩
theorem lx(a bits:List Int)(ha:Fd.Good a)(hn:bits.length≤1000)(w:World)(v:Value)(h:Sl bits v w):
  Rw 145 #[.agg (Ns a),v] w (.agg (Ns (Fd.pow a bits))):=by
 obtain⟨q,c,rfl,hq,hc⟩:=h;exact iU a bits q c w ha hn hc hq
theorem Rp.Ba{a b:List UInt8}(h: ¬a=b):((⟨a.toArray⟩:ByteArray).toList==(⟨b.toArray⟩:ByteArray).toList)=false:=by
 cases hc:(⟨a.toArray⟩:ByteArray).toList==(⟨b.toArray⟩:ByteArray).toList with
 |false=>rfl
 |true=>
  have h1:=eq_of_beq hc;rw[ByteArray.toList_eq,ByteArray.toList_eq]at h1;exact absurd h1 h
theorem Rp.ua{P:Program}{fn:Func}{p q:Tmp}{ty:TypeId}(h:fn.results= #[.cell p ty,.tmp q])(tmps:Array Value)(w:World)(g:Nat)(t:TypeId)(cs:Array Value)(fr:Nat×Nat)(d:TypeDesc)(v:Value)
  (hp:tmps.getD p undef= .pointer (some ⟨g,0,none⟩)) (hq:tmps.getD q undef=v) (hg:w.heap[g]? =some (.cells cs t fr))
  (hu:P.underlying ty=some d) (hd:(match d with| .struct _| .array _ _=>true|_=>false)=true) (hi:(P.info? ty).map (·.size)=some cs.size):
  (results fn tmps).run P w= .ok (.tuple #[.agg cs,v]) w:=by
 have hp':tmps[p]?.getD undef= .pointer (some ⟨g,0,none⟩):=by simpa using hp
 have hq':tmps[q]?.getD undef=v:=by simpa using hq
 simp[results,h,hp',hq',asAddr,run_loadVar_row w g t ty cs fr d hg hu hd hi]
theorem mJ(s:ByteArray)(Y YY D ON M1 DY V IV WW X XX TO PR X2 XX2 O0 bits1 bits2 NX TX TNX NX2 TX2 TNX2:List Int)(lt:List UInt8)(ok1 ok2 bt oX nX oX2 nX2:Bool)(V0:Value)(w:World)(hs:s.size=32)
  (hY:Y.length=16) (hYY:YY.length=16) (hD:D.length=16) (hON:ON.length=16) (hM1:M1.length=16) (hV:V.length=16) (hWW:WW.length=16) (hX1:X.length=16) (hX2:X2.length=16) (hNX:NX.length=16) (hNX2:NX2.length=16) (hTX:TX.length=16) (hTNX:TNX.length=16) (hTX2:TX2.length=16) (hTNX2:TNX2.length=16)
  (hbt:decide ((128:Int)≤((s.data.toList.getD 31 0).toNat:Int))=bt)
  (v0:Hid (¬lt=s.data.toList.set 31 (s.data.toList.getD 31 0%128)→V0= .tuple #[.agg (Ns Rp.Z64),.bool false]))
  (v1:Hid (lt=s.data.toList.set 31 (s.data.toList.getD 31 0%128)→ok1=true→(oX=bt→V0= .tuple #[.agg (Ns (Rp.qt X Y ON TX)),.bool true])∧(¬oX=bt→nX=bt→V0= .tuple #[.agg (Ns (Rp.qt NX Y ON TNX)),.bool true])∧(¬oX=bt→ ¬nX=bt→V0= .tuple #[.agg (Ns Rp.Z64),.bool false])))
  (v2:Hid (lt=s.data.toList.set 31 (s.data.toList.getD 31 0%128)→ok1=false→ok2=true→(oX2=bt→V0= .tuple #[.agg (Ns (Rp.qt X2 Y ON TX2)),.bool true])∧(¬oX2=bt→nX2=bt→V0= .tuple #[.agg (Ns (Rp.qt NX2 Y ON TNX2)),.bool true])∧(¬oX2=bt→ ¬nX2=bt→V0= .tuple #[.agg (Ns Rp.Z64),.bool false])))
  (v3:Hid (lt=s.data.toList.set 31 (s.data.toList.getD 31 0%128)→ok1=false→ok2=false→V0= .tuple #[.agg (Ns Rp.Z64),.bool false]))
  (b1:Hid (∀wx v,Sl [0] v wx→Calls Tryz.prog 144 #[v,.int .i64 252] wx fun e w'=> ∃v',e= .returned v'∧Sl bits1 v' w'∧Below wx.heap.size wx w'))
  (b2:Hid (∀wx v,Sl [0,1,1] v wx→Calls Tryz.prog 144 #[v,.int .i64 253] wx fun e w'=> ∃v',e= .returned v'∧Sl bits2 v' w'∧Below wx.heap.size wx w'))
  (p1:Hid (∀wx v,Sl bits1 v wx→Rw 145 #[.agg (Ns WW),v] wx (.agg (Ns X))))
  (p2:Hid (∀wx v,Sl bits2 v wx→Rw 145 #[.agg (Ns TO),v] wx (.agg (Ns PR))))
  (H1:Hid (Rv 139 #[.string s] (.agg (Ns Y))))
  (H2:Hid (Rv 87 #[.agg (Ns Y)] (.string ⟨lt.toArray⟩)))
  (H3:Hid (Rv 84 #[.agg (Ns Y),.agg (Ns Y)] (.agg (Ns YY))))
  (H4:Hid (Rv 79 #[] (.agg (Ns D))))
  (H5:Hid (Rv 81 #[.int .i64 1] (.agg (Ns ON))))
  (H6:Hid (Rv 140 #[.agg (Ns YY),.agg (Ns ON)] (.agg (Ns M1))))
  (H7:Hid (Rv 84 #[.agg (Ns D),.agg (Ns YY)] (.agg (Ns DY))))
  (H8:Hid (Rv 80 #[.agg (Ns DY),.agg (Ns ON)] (.agg (Ns V))))
  (H9:Hid (Rv 85 #[.agg (Ns V)] (.agg (Ns IV))))
  (J1:Hid (Rv 84 #[.agg (Ns M1),.agg (Ns IV)] (.agg (Ns WW))))
  (J2:Hid (Rv 84 #[.agg (Ns X),.agg (Ns X)] (.agg (Ns XX))))
  (J3:Hid (Rv 146 #[.agg (Ns XX),.agg (Ns WW)] (.bool ok1)))
  (J4:Hid (Rv 81 #[.int .i64 2] (.agg (Ns TO))))
  (J5:Hid (Rv 84 #[.agg (Ns X),.agg (Ns PR)] (.agg (Ns X2))))
  (J6:Hid (Rv 84 #[.agg (Ns X2),.agg (Ns X2)] (.agg (Ns XX2))))
  (J7:Hid (Rv 146 #[.agg (Ns XX2),.agg (Ns WW)] (.bool ok2)))
  (K0:Hid (Rv 81 #[.int .i64 0] (.agg (Ns O0))))
  (K1:Hid (Rv 88 #[.agg (Ns X)] (.bool oX)))
  (K2:Hid (Rv 140 #[.agg (Ns O0),.agg (Ns X)] (.agg (Ns NX))))
  (K3:Hid (Rv 88 #[.agg (Ns NX)] (.bool nX)))
  (K4:Hid (Rv 84 #[.agg (Ns X),.agg (Ns Y)] (.agg (Ns TX))))
  (K5:Hid (Rv 84 #[.agg (Ns NX),.agg (Ns Y)] (.agg (Ns TNX))))
  (L1:Hid (Rv 88 #[.agg (Ns X2)] (.bool oX2)))
  (L2:Hid (Rv 140 #[.agg (Ns O0),.agg (Ns X2)] (.agg (Ns NX2))))
  (L3:Hid (Rv 88 #[.agg (Ns NX2)] (.bool nX2)))
  (L4:Hid (Rv 84 #[.agg (Ns X2),.agg (Ns Y)] (.agg (Ns TX2))))
  (L5:Hid (Rv 84 #[.agg (Ns NX2),.agg (Ns Y)] (.agg (Ns TNX2)))):
  Calls Tryz.prog 86 #[.string s] w fun e w'=>e= .returned V0∧Below w.heap.size w w':=by
 have hz:=bC;have hz2:=Rp.xz;have hbn:=Rp.Ap;have sZ:=Rp.wR;have B1:Hid (∀wx:World,(Instr.build 61 #[(0,.agg (Ns X)),(1,.agg (Ns Y)),(2,.agg (Ns ON)),(3,.agg (Ns TX))]).run Tryz.prog wx= .ok (.agg (Ns (Rp.qt X Y ON TX))) wx):=Rp.xi X Y ON TX hX1 hY hON hTX;have lQ1:=Rp.uy hX1 hY hON hTX;generalize Rp.qt X Y ON TX=Q1 at B1 lQ1 v1;have sQ1:=Nz lQ1;have B2:Hid (∀wx:World,(Instr.build 61 #[(0,.agg (Ns NX)),(1,.agg (Ns Y)),(2,.agg (Ns ON)),(3,.agg (Ns TNX))]).run Tryz.prog wx= .ok (.agg (Ns (Rp.qt NX Y ON TNX))) wx):=Rp.xi NX Y ON TNX hNX hY hON hTNX;have lQ2:=Rp.uy hNX hY hON hTNX;generalize Rp.qt NX Y ON TNX=Q2 at B2 lQ2 v1;have sQ2:=Nz lQ2;have B3:Hid (∀wx:World,(Instr.build 61 #[(0,.agg (Ns X2)),(1,.agg (Ns Y)),(2,.agg (Ns ON)),(3,.agg (Ns TX2))]).run Tryz.prog wx= .ok (.agg (Ns (Rp.qt X2 Y ON TX2))) wx):=Rp.xi X2 Y ON TX2 hX2 hY hON hTX2;have lQ3:=Rp.uy hX2 hY hON hTX2;generalize Rp.qt X2 Y ON TX2=Q3 at B3 lQ3 v2;have sQ3:=Nz lQ3;have B4:Hid (∀wx:World,(Instr.build 61 #[(0,.agg (Ns NX2)),(1,.agg (Ns Y)),(2,.agg (Ns ON)),(3,.agg (Ns TNX2))]).run Tryz.prog wx= .ok (.agg (Ns (Rp.qt NX2 Y ON TNX2))) wx):=Rp.xi NX2 Y ON TNX2 hNX2 hY hON hTNX2;have lQ4:=Rp.uy hNX2 hY hON hTNX2;generalize Rp.qt NX2 Y ON TNX2=Q4 at B4 lQ4 v2;have sQ4:=Nz lQ4;generalize Rp.Z64=ZO at hz2 sZ hbn v0 v1 v2 v3;have sZ':=Nz sZ;replace hbn:Hid (∀wx:World,(Instr.build 61 #[]).run Tryz.prog wx= .ok (.agg (Ns ZO)) wx):=hbn;have sY:=Nz hY;have sYY:=Nz hYY;have sD:=Nz hD;have sM1:=Nz hM1;have sV:=Nz hV;have sWW:=Nz hWW;have sX2:=Nz hX2;have sNX:=Nz hNX;have sNX2:=Nz hNX2;have sX:=Nz hX1;have hlen:s.data.toList.length=32:=by rw[←hs];simp
 have a31:((s.data.toList.getD 31 0).toNat:Int)%128=((s.data.toList.getD 31 0%128).toNat:Int):=by rw[UInt8.toNat_mod];rfl
 have u1:=(s.data.toList.getD 31 0).toNat_lt;have hLB:Hid (s.data.toList.set 31 (s.data.toList.getD 31 0%128)=s.data.toList.set 31 (s.data.toList.getD 31 0%128)):=rfl;have lLB:(s.data.toList.set 31 (s.data.toList.getD 31 0%128)).length=32:=by rw[List.length_set,hlen]
 generalize hLBe:s.data.toList.set 31 (s.data.toList.getD 31 0%128)=LB at v0 v1 v2 v3 lLB hLB;clear hLB;replace hLBe:Hid (s.data.toList.set 31 (s.data.toList.getD 31 0%128)=LB):=hLBe;generalize hx31:s.data.toList.getD 31 0=x31 at hbt a31 u1 hLBe;generalize x31%128=y31 at hLBe a31;have u2:=y31.toNat_lt;have p31:IntKind.u8.wrap (y31.toNat:Int)=(y31.toNat:Int):=by rw[IntKind.wrap_u8];omega
 have hX:WD w w.heap.size [(w.heap.size,Ns ZO,61)] (w.alloc (.cells (Ns ZO) 61)):=(WD.start (w:=w)).new (Ns ZO) 61;go_enter Tryz.func86,Tryz.ntmps86;go_wp2_with fail;generalize w.alloc (.cells (Ns ZO) 61)=w1 at hX⊢;refine gv H1 fun x1 k1=> ?_
 replace hX:=hX.keep k1;clear k1;have hN:=hX.new (Ns Fd.zN) 59;have gz:=hN.get 0 rfl;dsimp only at gz;unfold Blk at gz;replace hX:WD w (w.heap.size) [(x1.heap.size,Ns Y,59),(w.heap.size,Ns ZO,61)] ((x1.alloc (.cells (Ns Fd.zN) 59)).setRow x1.heap.size (Ns Y)):=hN.over 0 rfl (Ns Y);obtain⟨cap,wb,hcv,ho,b3⟩:=bytesOf s ((x1.alloc (.cells (Ns Fd.zN) 59)).setRow x1.heap.size (Ns Y)).heap.size ((x1.alloc (.cells (Ns Fd.zN) 59)).setRow x1.heap.size (Ns Y)) nR;rw[hs]at hcv;replace ho:=ho.at;have hgb:w.heap.size≤((x1.alloc (.cells (Ns Fd.zN) 59)).setRow x1.heap.size (Ns Y)).heap.size:=hX.below.size;have hq4:x1.heap.size<((x1.alloc (.cells (Ns Fd.zN) 59)).setRow x1.heap.size (Ns Y)).heap.size:=(hX.get 0 rfl).lt;have b4:=b3.setCell (p:=⟨((x1.alloc (.cells (Ns Fd.zN) 59)).setRow x1.heap.size (Ns Y)).heap.size,31,none⟩) nR (.int .u8 (y31.toNat:Int));replace hX:=hX.keep b4;clear b3 b4;have hsz:((x1.alloc (.cells (Ns Fd.zN) 59)).setRow x1.heap.size (Ns Y)).heap.size=x1.heap.size+1:=by simp
 rw[hsz]at hcv ho hgb hq4 hX;clear hsz;have c31:=ho.cell 31 (by omega);have f31:=ho.frozen 31 (by omega);rw[hx31]at c31;have o2:=ho.set 31 y31;rw[hLBe.out]at o2;clear ho;have m31:Int.tmod (x31.toNat:Int) 128=(x31.toNat:Int)%128:=Int.tmod_eq_emod_of_nonneg (by omega);go_wp2_with (first
  |(refine stN rfl rfl x1.heap.size rfl rfl gz sY rfl ?_))
 clear hN gz c31 f31 hcv hgb hx31;generalize wb.setCell ⟨x1.heap.size+1,31,none⟩ (.int .u8 (y31.toNat:Int))=wc at hX o2⊢;generalize x1.heap.size=q4 at hX o2 hq4⊢;generalize q4+1=gb at o2 hq4⊢;refine ai (S:=(fun wx=>WD w (w.heap.size) [(q4,Ns Y,59),(w.heap.size,Ns ZO,61)] wx∧OwnR wx gb cap LB)) (ls:= []) (by kernel_rfl) ?_;have hS:(fun wx=>WD w (w.heap.size) [(q4,Ns Y,59),(w.heap.size,Ns ZO,61)] wx∧OwnR wx gb cap LB) wc.drew:=⟨hX.drew,o2.drew⟩;clear hX o2;generalize wc.drew=wd at hS⊢;refine aa 0 28 (v:= .agg (Ns Y)) hS ?_ ?_
 ·exact fun wx BM=>xl t59 (BM.1.get 0 rfl) sY rfl rfl
 try simp only[qQ]
 refine ac 2 30 hS ?_;try simp only[qQ]
 refine aa 3 31 (v:= .string ⟨LB.toArray⟩) hS ?_ ?_
 ·(intro wx BM;have hso:=aY (n:=32) BM.2 (by rw[lLB]);clear BM;go_simp;try (with_reducible rfl))
 try simp only[qQ]
 refine aj 1 fun K hK=> ?_
 go_simp;go_wp2_with (go_at_call 87;refine gv H2 fun wf k0=> ?_);have hT:(fun wx=>WD w (w.heap.size) [(q4,Ns Y,59),(w.heap.size,Ns ZO,61)] wx∧OwnR wx gb cap LB) wf:=⟨hS.1.keep k0,hS.2.below k0 hS.2.lt⟩;refine hK.out _ _ hT ?_;try simp only[qQ]
 clear hK K k0 hS;by_cases heq:lt=LB
 ·replace heq:Hid (lt=LB):=heq;refine aa 4 32 (v:= .bool false) hT ?_ ?_
  ·(intro wx BM;clear BM;go_simp;exact heq.out)
  try simp only[qQ]
  have hX:=hT.1;clear hT;refine ak ?_;have g6:=hX.gt 0 rfl;go_wp2_with (first
   |(refine ldN rfl rfl (q4) rfl g6 sY ?_))
  clear g6;refine gv H3 fun x7 k7=> ?_
  replace hX:=hX.keep k7;clear k7;have hN:=hX.new (Ns Fd.zN) 59;have g8:=hN.gt 0 rfl;replace hX:WD w (w.heap.size) [(x7.heap.size,Ns YY,59),(q4,Ns Y,59),(w.heap.size,Ns ZO,61)] ((x7.alloc (.cells (Ns Fd.zN) 59)).setRow x7.heap.size (Ns YY)):=hN.over 0 rfl (Ns YY);go_wp2_with (first
   |(refine stN rfl rfl x7.heap.size rfl rfl g8 sYY rfl ?_))
  clear hN g8;generalize (x7.alloc (.cells (Ns Fd.zN) 59)).setRow x7.heap.size (Ns YY)=v9 at hX⊢;generalize x7.heap.size=q7 at hX⊢;refine gv H4 fun x10 k10=> ?_
  replace hX:=hX.keep k10;clear k10;have hN:=hX.new (Ns Fd.zN) 59;have g11:=hN.gt 0 rfl;replace hX:WD w (w.heap.size) [(x10.heap.size,Ns D,59),(q7,Ns YY,59),(q4,Ns Y,59),(w.heap.size,Ns ZO,61)] ((x10.alloc (.cells (Ns Fd.zN) 59)).setRow x10.heap.size (Ns D)):=hN.over 0 rfl (Ns D);go_wp2_with (first
   |(refine stN rfl rfl x10.heap.size rfl rfl g11 sD rfl ?_))
  clear hN g11;generalize (x10.alloc (.cells (Ns Fd.zN) 59)).setRow x10.heap.size (Ns D)=v12 at hX⊢;generalize x10.heap.size=q8 at hX⊢;refine ai (S:=WD w (w.heap.size) [(q8,Ns D,59),(q7,Ns YY,59),(q4,Ns Y,59),(w.heap.size,Ns ZO,61)]) (ls:= [4]) (by kernel_rfl) ?_;have hX0:WD w (w.heap.size) [(q8,Ns D,59),(q7,Ns YY,59),(q4,Ns Y,59),(w.heap.size,Ns ZO,61)] v12.drew:=hX.drew;clear hX;generalize World.drew v12=cd at hX0⊢;refine af 0 38 t59 (fun _ h=>h.get 1 rfl) sYY hX0 ?_;try simp only[qQ]
  change al _ _ _ _ _ _ 4 #[true,false,false,false,false] _ _;refine aq (R:=fun d u w'=>(d 1=true→u 39= .agg (Ns ON))∧(d 2=true→u 40= .agg (Ns M1))∧(d 3=true→Fresh w (w.heap.size) [(q8,Ns D,59),(q7,Ns YY,59),(q4,Ns Y,59),(w.heap.size,Ns ZO,61)] (Ns Fd.zN) 59 (u 9) w')∧WD w (w.heap.size) [(q8,Ns D,59),(q7,Ns YY,59),(q4,Ns Y,59),(w.heap.size,Ns ZO,61)] w') [39,40,9] [1,2,3] #[true,true,true,true,false] (by kernel_rfl) (by kernel_rfl) (by kernel_rfl) ⟨fun h=>Bool.noConfusion h,fun h=>Bool.noConfusion h,fun h=>Bool.noConfusion h,hX0⟩ ?stepsc ?finc;case stepsc=>
   refine StepsU.cons rfl ?sc1 (StepsU.cons rfl ?sc2 (StepsU.cons rfl ?sc3 StepsU.nil));case sc1=>
    rintro d u wx ⟨h1,h2,h3,hX⟩ hd K hK;simp only[ae,qF,qQ];go_simp;go_wp2_with (go_at_call 81;refine gv H5 fun x0 k0=> ?_);refine hK.out (upV u 39 (.agg (Ns ON))) _ (hX.keep k0) ⟨fun _=>rfl,fun h=>h2 h,fun h=>(h3 h).keep k0,hX.keep k0⟩ _ ?_;simp only[ae,qF,qQ,upV,reduceIte,Nat.reduceEqDiff]
   case sc2=>
    rintro d u wx ⟨h1,h2,h3,hX⟩ hd K hK;have e1:=h1 (hd 1 (by kernel_rfl));simp only[ae,qF,qQ,e1];go_simp;go_wp2_with (go_at_call 140;refine gv H6 fun x0 k0=> ?_);refine hK.out (upV u 40 (.agg (Ns M1))) _ (hX.keep k0) ⟨fun h=>h1 h,fun _=>rfl,fun h=>(h3 h).keep k0,hX.keep k0⟩ _ ?_;simp only[ae,qF,qQ,upV,reduceIte,Nat.reduceEqDiff,e1]
   case sc3=>
    rintro d u wx ⟨h1,h2,h3,hX⟩ hd K hK;simp only[ae,qF,qQ];go_simp;refine hK.out (upV u 9 (.pointer (some ⟨wx.heap.size,0,none⟩))) _ (hX.alloc _) ⟨fun h=>h1 h,fun h=>h2 h,fun _=>bg hX _ _,hX.alloc _⟩ _ ?_;simp only[ae,qF,qQ,upV,reduceIte,Nat.reduceEqDiff]
  case finc=>
   rintro n' d u cx ⟨h1,h2,h3,hX⟩ hd;have e39:=h1 (hd 1 rfl);have e40:=h2 (hd 2 rfl);obtain⟨q9,e9,bq9,lq9,mq9⟩:=h3 (hd 3 rfl);simp only[ae,qF,qQ,e39,e40,e9];clear hd h1 h2 h3 e39 e40 e9;change al _ _ _ _ _ _ (n'+1) _ _ _;replace hX:=hX.push bq9 mq9 (fun x hx=>Nat.ne_of_lt (lq9 x hx));clear bq9 lq9 mq9;refine am 4 fun K hK=> ?_
   have hst:=aL (l:=M1) (hX.get 0 rfl) (by rw[hM1];rfl);go_simp;refine hK.out _ _ ?_;clear hK K hst;replace hX:WD w (w.heap.size) [(q9,Ns M1,59),(q8,Ns D,59),(q7,Ns YY,59),(q4,Ns Y,59),(w.heap.size,Ns ZO,61)] (cx.setRow (q9) (Ns M1)):=hX.over 0 rfl (Ns M1);generalize cx.setRow (q9) (Ns M1)=cy0 at hX⊢;refine ak ?_;have g13:=hX.gt 1 rfl;have g14:=hX.gt 2 rfl;go_wp2_with (first
    |(refine ldN rfl rfl (q8) rfl g13 sD ?_)
    |(refine ldN rfl rfl (q7) rfl g14 sYY ?_))
   clear g13 g14;refine gv H7 fun x15 k15=> ?_
   replace hX:=hX.keep k15;clear k15;go_wp2_with fail;refine gv H5 fun x16 k16=> ?_
   replace hX:=hX.keep k16;clear k16;go_wp2_with fail;refine gv H8 fun x17 k17=> ?_
   replace hX:=hX.keep k17;clear k17;have hN:=hX.new (Ns Fd.zN) 59;have g18:=hN.gt 0 rfl;replace hX:WD w (w.heap.size) [(x17.heap.size,Ns V,59),(q9,Ns M1,59),(q8,Ns D,59),(q7,Ns YY,59),(q4,Ns Y,59),(w.heap.size,Ns ZO,61)] ((x17.alloc (.cells (Ns Fd.zN) 59)).setRow x17.heap.size (Ns V)):=hN.over 0 rfl (Ns V);go_wp2_with (first
    |(refine stN rfl rfl x17.heap.size rfl rfl g18 sV rfl ?_))
   clear hN g18;generalize (x17.alloc (.cells (Ns Fd.zN) 59)).setRow x17.heap.size (Ns V)=v19 at hX⊢;generalize x17.heap.size=q10 at hX⊢;replace hX:WD w (w.heap.size) [(q10,Ns V,59),(q9,Ns M1,59),(q4,Ns Y,59),(w.heap.size,Ns ZO,61)] v19:=hX.sub (by simp);refine ai (S:=WD w (w.heap.size) [(q10,Ns V,59),(q9,Ns M1,59),(q4,Ns Y,59),(w.heap.size,Ns ZO,61)]) (ls:= [5]) (by kernel_rfl) ?_;have hX0:WD w (w.heap.size) [(q10,Ns V,59),(q9,Ns M1,59),(q4,Ns Y,59),(w.heap.size,Ns ZO,61)] v19.drew:=hX.drew;clear hX;generalize World.drew v19=dd at hX0⊢;refine af 0 46 t59 (fun _ h=>h.get 1 rfl) sM1 hX0 ?_;refine af 1 47 t59 (fun _ h=>h.get 0 rfl) sV hX0 ?_;try simp only[qQ]
   change al _ _ _ _ _ _ 4 #[true,true,false,false,false,false] _ _;refine aq (R:=fun d u w'=>(d 2=true→u 48= .agg (Ns IV))∧(d 3=true→u 49= .agg (Ns WW))∧(d 4=true→Fresh w (w.heap.size) [(q10,Ns V,59),(q9,Ns M1,59),(q4,Ns Y,59),(w.heap.size,Ns ZO,61)] (Ns Fd.zN) 59 (u 11) w')∧WD w (w.heap.size) [(q10,Ns V,59),(q9,Ns M1,59),(q4,Ns Y,59),(w.heap.size,Ns ZO,61)] w') [48,49,11] [2,3,4] #[true,true,true,true,true,false] (by kernel_rfl) (by kernel_rfl) (by kernel_rfl) ⟨fun h=>Bool.noConfusion h,fun h=>Bool.noConfusion h,fun h=>Bool.noConfusion h,hX0⟩ ?stepsd ?find;case stepsd=>
    refine StepsU.cons rfl ?sd2 (StepsU.cons rfl ?sd3 (StepsU.cons rfl ?sd4 StepsU.nil));case sd2=>
     rintro d u wx ⟨h2,h3,h4,hX⟩ hd K hK;simp only[ae,qF,qQ];go_simp;go_wp2_with (go_at_call 85;refine gv H9 fun x0 k0=> ?_);refine hK.out (upV u 48 (.agg (Ns IV))) _ (hX.keep k0) ⟨fun _=>rfl,fun h=>h3 h,fun h=>(h4 h).keep k0,hX.keep k0⟩ _ ?_;simp only[ae,qF,qQ,upV,reduceIte,Nat.reduceEqDiff]
    case sd3=>
     rintro d u wx ⟨h2,h3,h4,hX⟩ hd K hK;have e2:=h2 (hd 2 (by kernel_rfl));simp only[ae,qF,qQ,e2];go_simp;go_wp2_with (go_at_call 84;refine gv J1 fun x0 k0=> ?_);refine hK.out (upV u 49 (.agg (Ns WW))) _ (hX.keep k0) ⟨fun h=>h2 h,fun _=>rfl,fun h=>(h4 h).keep k0,hX.keep k0⟩ _ ?_;simp only[ae,qF,qQ,upV,reduceIte,Nat.reduceEqDiff,e2]
    case sd4=>
     rintro d u wx ⟨h2,h3,h4,hX⟩ hd K hK;simp only[ae,qF,qQ];go_simp;refine hK.out (upV u 11 (.pointer (some ⟨wx.heap.size,0,none⟩))) _ (hX.alloc _) ⟨fun h=>h2 h,fun h=>h3 h,fun _=>bg hX _ _,hX.alloc _⟩ _ ?_;simp only[ae,qF,qQ,upV,reduceIte,Nat.reduceEqDiff]
   case find=>
    rintro n' d u dx ⟨h2,h3,h4,hX⟩ hd;have e48:=h2 (hd 2 rfl);have e49:=h3 (hd 3 rfl);obtain⟨q11,e11,bq11,lq11,mq11⟩:=h4 (hd 4 rfl);simp only[ae,qF,qQ,e48,e49,e11];clear hd h2 h3 h4 e48 e49 e11;change al _ _ _ _ _ _ (n'+1) _ _ _;replace hX:=hX.push bq11 mq11 (fun x hx=>Nat.ne_of_lt (lq11 x hx));clear bq11 lq11 mq11;refine am 5 fun K hK=> ?_
    have hst:=aL (l:=WW) (hX.get 0 rfl) (by rw[hWW];rfl);go_simp;refine hK.out _ _ ?_;clear hK K hst;replace hX:WD w (w.heap.size) [(q11,Ns WW,59),(q10,Ns V,59),(q9,Ns M1,59),(q4,Ns Y,59),(w.heap.size,Ns ZO,61)] (dx.setRow (q11) (Ns WW)):=hX.over 0 rfl (Ns WW);generalize dx.setRow (q11) (Ns WW)=dy0 at hX⊢;refine ak ?_;go_wp2_with fail;replace hX:WD w (w.heap.size) [(q11,Ns WW,59),(q4,Ns Y,59),(w.heap.size,Ns ZO,61)] dy0:=hX.sub (by simp);refine ai (S:=WD w (w.heap.size) [(q11,Ns WW,59),(q4,Ns Y,59),(w.heap.size,Ns ZO,61)]) (ls:= [5]) (by kernel_rfl) ?_;have hX0:WD w (w.heap.size) [(q11,Ns WW,59),(q4,Ns Y,59),(w.heap.size,Ns ZO,61)] dy0.drew:=hX.drew;clear hX;generalize World.drew dy0=ed at hX0⊢;refine af 0 50 t59 (fun _ h=>h.get 0 rfl) sWW hX0 ?_;try simp only[qQ]
    change al _ _ _ _ _ _ 5 #[true,false,false,false,false,false] _ _;refine aq (R:=fun d u w'=>(d 1=true→Sl [0] (u 51) w')∧(d 2=true→Sl bits1 (u 52) w')∧(d 3=true→u 53= .agg (Ns X))∧(d 4=true→Fresh w (w.heap.size) [(q11,Ns WW,59),(q4,Ns Y,59),(w.heap.size,Ns ZO,61)] (Ns Fd.zN) 59 (u 12) w')∧WD w (w.heap.size) [(q11,Ns WW,59),(q4,Ns Y,59),(w.heap.size,Ns ZO,61)] w') [51,52,53,12] [1,2,3,4] #[true,true,true,true,true,false] (by kernel_rfl) (by kernel_rfl) (by kernel_rfl) ⟨fun h=>Bool.noConfusion h,fun h=>Bool.noConfusion h,fun h=>Bool.noConfusion h,fun h=>Bool.noConfusion h,hX0⟩ ?stepse ?fine;case stepse=>
     refine StepsU.cons rfl ?se1 (StepsU.cons rfl ?se2 (StepsU.cons rfl ?se3 (StepsU.cons rfl ?se4 StepsU.nil)));case se1=>
      rintro d u wx ⟨h1,h2,h3,h4,hX⟩ hd K hK;simp only[ae,qF,qQ];go_simp;refine hK.out (upV u 51 (.slice (some ⟨wx.heap.size,0,none⟩) 1 1)) _ (hX.alloc _) ⟨fun _=>Sl.new wx [0],fun h=>(h2 h).alloc _,fun h=>h3 h,fun h=>(h4 h).alloc _,hX.alloc _⟩ _ ?_;simp only[ae,qF,qQ,upV,reduceIte,Nat.reduceEqDiff]
     case se2=>
      rintro d u wx ⟨h1,h2,h3,h4,hX⟩ hd K hK;simp only[ae,qF,qQ];go_simp;go_wp2_with (go_at_call 144;refine(b1.out _ _ (h1 (hd 1 (by kernel_rfl)))).mono ?_;rintro e x0 ⟨v0,rfl,s0,k0⟩);refine hK.out (upV u 52 (v0)) _ (hX.keep k0) ⟨fun h=>(h1 h).keep k0,fun _=>s0,fun h=>h3 h,fun h=>(h4 h).keep k0,hX.keep k0⟩ _ ?_;simp only[ae,qF,qQ,upV,reduceIte,Nat.reduceEqDiff]
     case se3=>
      rintro d u wx ⟨h1,h2,h3,h4,hX⟩ hd K hK;simp only[ae,qF,qQ];go_simp;go_wp2_with (go_at_call 145;refine(p1.out _ _ (h2 (hd 2 (by kernel_rfl)))).mono ?_;rintro e x0 ⟨rfl,k0⟩);refine hK.out (upV u 53 (.agg (Ns X))) _ (hX.keep k0) ⟨fun h=>(h1 h).keep k0,fun h=>(h2 h).keep k0,fun _=>rfl,fun h=>(h4 h).keep k0,hX.keep k0⟩ _ ?_;simp only[ae,qF,qQ,upV,reduceIte,Nat.reduceEqDiff]
     case se4=>
      rintro d u wx ⟨h1,h2,h3,h4,hX⟩ hd K hK;simp only[ae,qF,qQ];go_simp;refine hK.out (upV u 12 (.pointer (some ⟨wx.heap.size,0,none⟩))) _ (hX.alloc _) ⟨fun h=>(h1 h).alloc _,fun h=>(h2 h).alloc _,fun h=>h3 h,fun _=>bg hX _ _,hX.alloc _⟩ _ ?_;simp only[ae,qF,qQ,upV,reduceIte,Nat.reduceEqDiff]
    case fine=>
     rintro n' d u ex ⟨h1,h2,h3,h4,hX⟩ hd;have e53:=h3 (hd 3 rfl);obtain⟨q12,e12,bq12,lq12,mq12⟩:=h4 (hd 4 rfl);simp only[ae,qF,qQ,e53,e12];clear hd h1 h2 h3 h4 e53 e12;generalize u 51=u51;generalize u 52=u52;change al _ _ _ _ _ _ (n'+1) _ _ _;replace hX:=hX.push bq12 mq12 (fun x hx=>Nat.ne_of_lt (lq12 x hx));clear bq12 lq12 mq12;refine am 5 fun K hK=> ?_
     have hst:=aL (l:=X) (hX.get 0 rfl) (by rw[hX1];rfl);go_simp;refine hK.out _ _ ?_;clear hK K hst;replace hX:WD w (w.heap.size) [(q12,Ns X,59),(q11,Ns WW,59),(q4,Ns Y,59),(w.heap.size,Ns ZO,61)] (ex.setRow (q12) (Ns X)):=hX.over 0 rfl (Ns X);generalize ex.setRow (q12) (Ns X)=ey0 at hX⊢;refine ak ?_;go_wp2_with fail;refine ai (S:=WD w (w.heap.size) [(q12,Ns X,59),(q11,Ns WW,59),(q4,Ns Y,59),(w.heap.size,Ns ZO,61)]) (ls:= []) (by kernel_rfl) ?_;have hX0:WD w (w.heap.size) [(q12,Ns X,59),(q11,Ns WW,59),(q4,Ns Y,59),(w.heap.size,Ns ZO,61)] ey0.drew:=hX.drew;clear hX;generalize World.drew ey0=fd at hX0⊢;refine af 0 54 t59 (fun _ h=>h.get 0 rfl) sX hX0 ?_;refine af 1 55 t59 (fun _ h=>h.get 0 rfl) sX hX0 ?_;refine af 3 57 t59 (fun _ h=>h.get 1 rfl) sWW hX0 ?_;try simp only[qQ]
     refine aj 2 fun K hK=> ?_
     go_simp;go_wp2_with (go_at_call 84;refine gv J2 fun fx0 k0=> ?_);have hX1:=hX0.keep k0;refine hK.out _ _ hX1 ?_;try simp only[qQ]
     clear hK K k0 hX0;refine aj 4 fun K hK=> ?_
     go_simp;go_wp2_with (go_at_call 146;refine gv J3 fun fx1 k0=> ?_);have hX2:=hX1.keep k0;refine hK.out _ _ hX2 ?_;try simp only[qQ]
     clear hK K k0 hX1;refine ac 5 13 (v:= .bool ok1) hX2 ?_;simp only[qQ];refine ak ?_;have hX:=hX2;clear hX2;cases ok1 with
     |true=>
      have g20:=hX.gt 0 rfl;go_wp2_with (first
       |(refine ldN rfl rfl (q12) rfl g20 sX ?_))
      clear g20;refine gv K1 fun x21 k21=> ?_
      replace hX:=hX.keep k21;clear k21;by_cases h1x:oX=bt
      ·replace h1x:Hid (oX=bt):=h1x;have hcm:Hid True:=trivial;rw[h1x.out];clear hcm;have g22:=hX.gt 0 rfl;go_wp2_with (first
        |(refine ldN rfl rfl (q12) rfl g22 sX ?_))
       clear g22;refine gv K1 fun x23 k23=> ?_
       replace hX:=hX.keep k23;clear k23;rw[h1x.out];go_wp2_with fail;refine ai (S:=WD w (w.heap.size) [(q12,Ns X,59),(q11,Ns WW,59),(q4,Ns Y,59),(w.heap.size,Ns ZO,61)]) (ls:= [7,8]) (by kernel_rfl) ?_;have hX0:WD w (w.heap.size) [(q12,Ns X,59),(q11,Ns WW,59),(q4,Ns Y,59),(w.heap.size,Ns ZO,61)] x23.drew:=hX.drew;clear hX;generalize World.drew x23=xad at hX0⊢;refine af 0 87 t59 (fun _ h=>h.get 0 rfl) sX hX0 ?_;refine af 1 88 t59 (fun _ h=>h.get 2 rfl) sY hX0 ?_;refine af 3 90 t59 (fun _ h=>h.get 0 rfl) sX hX0 ?_;simp only[qQ];refine af 4 91 t59 (fun _ h=>h.get 2 rfl) sY hX0 ?_;try simp only[qQ]
       change al _ _ _ _ _ _ 5 #[true,true,false,true,true,false,false,false,false] _ _;refine aq (R:=fun d u w'=>(d 2=true→u 89= .agg (Ns ON))∧(d 5=true→u 92= .agg (Ns TX))∧(d 6=true→u 93= .agg (Ns Q1))∧WD w (w.heap.size) [(q12,Ns X,59),(q11,Ns WW,59),(q4,Ns Y,59),(w.heap.size,Ns ZO,61)] w') [89,92,93] [2,5,6] #[true,true,true,true,true,true,true,false,false] (by kernel_rfl) (by kernel_rfl) (by kernel_rfl) ⟨fun h=>Bool.noConfusion h,fun h=>Bool.noConfusion h,fun h=>Bool.noConfusion h,hX0⟩ ?stepsxa ?finxa;case stepsxa=>
        refine StepsU.cons rfl ?sxa2 (StepsU.cons rfl ?sxa5 (StepsU.cons rfl ?sxa6 StepsU.nil));case sxa2=>
         rintro d u wx ⟨h2,h5,h6,hX⟩ hd K hK;simp only[ae,qF,qQ];go_simp;go_wp2_with (go_at_call 81;refine gv H5 fun x0 k0=> ?_);refine hK.out (upV u 89 (.agg (Ns ON))) _ (hX.keep k0) ⟨fun _=>rfl,fun h=>h5 h,fun h=>h6 h,hX.keep k0⟩ _ ?_;simp only[ae,qF,qQ,upV,reduceIte,Nat.reduceEqDiff]
        case sxa5=>
         rintro d u wx ⟨h2,h5,h6,hX⟩ hd K hK;simp only[ae,qF,qQ];go_simp;go_wp2_with (go_at_call 84;refine gv K4 fun x0 k0=> ?_);refine hK.out (upV u 92 (.agg (Ns TX))) _ (hX.keep k0) ⟨fun h=>h2 h,fun _=>rfl,fun h=>h6 h,hX.keep k0⟩ _ ?_;simp only[ae,qF,qQ,upV,reduceIte,Nat.reduceEqDiff]
        case sxa6=>
         rintro d u wx ⟨h2,h5,h6,hX⟩ hd K hK;have e2:=h2 (hd 2 (by kernel_rfl));have e5:=h5 (hd 5 (by kernel_rfl));simp only[ae,qF,qQ,e2,e5];rw[if_pos (by rfl)];unfold Oper.wp;rw[Rp.ub 61 _ rfl [(0,.agg (Ns X)),(1,.agg (Ns Y)),(2,.agg (Ns ON)),(3,.agg (Ns TX))] rfl _ (B1.out wx)];refine hK.out (upV u 93 (.agg (Ns Q1))) _ hX ⟨fun h=>h2 h,fun h=>h5 h,fun _=>rfl,hX⟩ _ ?_;simp only[ae,qF,qQ,upV,reduceIte,Nat.reduceEqDiff,e2,e5];rfl
       case finxa=>
        rintro n' d u xax ⟨h2,h5,h6,hX⟩ hd;have e89:=h2 (hd 2 rfl);have e92:=h5 (hd 5 rfl);have e93:=h6 (hd 6 rfl);simp only[ae,qF,qQ,e89,e92,e93];clear hd h2 h5 h6 e89 e92 e93;change al _ _ _ _ _ _ (n'+2) _ _ _;refine am 7 fun K hK=> ?_
        have hst:=aL (l:=Q1) (hX.get 3 rfl) (by rw[sZ',lQ1]);go_simp;refine hK.out _ _ ?_;clear hK K hst;replace hX:WD w (w.heap.size) [(q12,Ns X,59),(q11,Ns WW,59),(q4,Ns Y,59),(w.heap.size,Ns Q1,61)] (xax.setRow (w.heap.size) (Ns Q1)):=hX.over 3 rfl (Ns Q1);generalize xax.setRow (w.heap.size) (Ns Q1)=xay0 at hX⊢;refine am 8 fun K hK=> ?_
        go_simp;refine hK.out _ _ ?_;clear hK K;refine ak ?_;go_wp2;refine bodyPost_ret (v:= .tuple #[.agg (Ns Q1),.bool true]) ?_ rfl ⟨by rw[(v1.out heq.out (by trivial)).1 h1x.out],hX.below⟩;exact Rp.ua rfl _ _ w.heap.size 61 _ (0,0) _ (.bool true) rfl rfl (hX.get 3 rfl) Tryz.underlying61 rfl (by rw[sQ1];exact Tryz.infoP64)
      ·have hcm:((oX)==bt)=false:=beq_eq_false_iff_ne.mpr h1x;go_wp2_with fail;refine ai (S:=WD w (w.heap.size) [(q12,Ns X,59),(q11,Ns WW,59),(q4,Ns Y,59),(w.heap.size,Ns ZO,61)]) (ls:= [3]) (by kernel_rfl) ?_;have hX0:WD w (w.heap.size) [(q12,Ns X,59),(q11,Ns WW,59),(q4,Ns Y,59),(w.heap.size,Ns ZO,61)] x21.drew:=hX.drew;clear hX;generalize World.drew x21=xnd at hX0⊢;refine af 1 80 t59 (fun _ h=>h.get 0 rfl) sX hX0 ?_;try simp only[qQ]
       refine aj 0 fun K hK=> ?_
       go_simp;go_wp2_with (go_at_call 81;refine gv K0 fun xnx0 k0=> ?_);have hX1:=hX0.keep k0;refine hK.out _ _ hX1 ?_;try simp only[qQ]
       clear hK K k0 hX0;refine aj 2 fun K hK=> ?_
       go_simp;go_wp2_with (go_at_call 140;refine gv K2 fun xnx1 k0=> ?_);have hX2:=hX1.keep k0;refine hK.out _ _ hX2 ?_;try simp only[qQ]
       clear hK K k0 hX1;refine am 3 fun K hK=> ?_
       have hst:=aL (l:=NX) (hX2.get 0 rfl) (by rw[sX,hNX]);go_simp;refine hK.out _ _ ?_;clear hK K hst;replace hX2:WD w (w.heap.size) [(q12,Ns NX,59),(q11,Ns WW,59),(q4,Ns Y,59),(w.heap.size,Ns ZO,61)] (xnx1.setRow (q12) (Ns NX)):=hX2.over 0 rfl (Ns NX);generalize xnx1.setRow (q12) (Ns NX)=xny0 at hX2⊢;refine ak ?_;have hX:=hX2;clear hX2;have g24:=hX.gt 0 rfl;go_wp2_with (first
        |(refine ldN rfl rfl (q12) rfl g24 sNX ?_))
       clear g24;refine gv K3 fun x25 k25=> ?_
       replace hX:=hX.keep k25;clear k25;by_cases h2x:nX=bt
       ·replace h2x:Hid (nX=bt):=h2x;rw[h2x.out];go_wp2_with fail;refine ai (S:=WD w (w.heap.size) [(q12,Ns NX,59),(q11,Ns WW,59),(q4,Ns Y,59),(w.heap.size,Ns ZO,61)]) (ls:= [7,8]) (by kernel_rfl) ?_;have hX0:WD w (w.heap.size) [(q12,Ns NX,59),(q11,Ns WW,59),(q4,Ns Y,59),(w.heap.size,Ns ZO,61)] x25.drew:=hX.drew;clear hX;generalize World.drew x25=xbd at hX0⊢;refine af 0 87 t59 (fun _ h=>h.get 0 rfl) sNX hX0 ?_;refine af 1 88 t59 (fun _ h=>h.get 2 rfl) sY hX0 ?_;refine af 3 90 t59 (fun _ h=>h.get 0 rfl) sNX hX0 ?_;simp only[qQ];refine af 4 91 t59 (fun _ h=>h.get 2 rfl) sY hX0 ?_;try simp only[qQ]
        change al _ _ _ _ _ _ 5 #[true,true,false,true,true,false,false,false,false] _ _;refine aq (R:=fun d u w'=>(d 2=true→u 89= .agg (Ns ON))∧(d 5=true→u 92= .agg (Ns TNX))∧(d 6=true→u 93= .agg (Ns Q2))∧WD w (w.heap.size) [(q12,Ns NX,59),(q11,Ns WW,59),(q4,Ns Y,59),(w.heap.size,Ns ZO,61)] w') [89,92,93] [2,5,6] #[true,true,true,true,true,true,true,false,false] (by kernel_rfl) (by kernel_rfl) (by kernel_rfl) ⟨fun h=>Bool.noConfusion h,fun h=>Bool.noConfusion h,fun h=>Bool.noConfusion h,hX0⟩ ?stepsxb ?finxb;case stepsxb=>
         refine StepsU.cons rfl ?sxb2 (StepsU.cons rfl ?sxb5 (StepsU.cons rfl ?sxb6 StepsU.nil));case sxb2=>
          rintro d u wx ⟨h2,h5,h6,hX⟩ hd K hK;simp only[ae,qF,qQ];go_simp;go_wp2_with (go_at_call 81;refine gv H5 fun x0 k0=> ?_);refine hK.out (upV u 89 (.agg (Ns ON))) _ (hX.keep k0) ⟨fun _=>rfl,fun h=>h5 h,fun h=>h6 h,hX.keep k0⟩ _ ?_;simp only[ae,qF,qQ,upV,reduceIte,Nat.reduceEqDiff]
         case sxb5=>
          rintro d u wx ⟨h2,h5,h6,hX⟩ hd K hK;simp only[ae,qF,qQ];go_simp;go_wp2_with (go_at_call 84;refine gv K5 fun x0 k0=> ?_);refine hK.out (upV u 92 (.agg (Ns TNX))) _ (hX.keep k0) ⟨fun h=>h2 h,fun _=>rfl,fun h=>h6 h,hX.keep k0⟩ _ ?_;simp only[ae,qF,qQ,upV,reduceIte,Nat.reduceEqDiff]
         case sxb6=>
          rintro d u wx ⟨h2,h5,h6,hX⟩ hd K hK;have e2:=h2 (hd 2 (by kernel_rfl));have e5:=h5 (hd 5 (by kernel_rfl));simp only[ae,qF,qQ,e2,e5];rw[if_pos (by rfl)];unfold Oper.wp;rw[Rp.ub 61 _ rfl [(0,.agg (Ns NX)),(1,.agg (Ns Y)),(2,.agg (Ns ON)),(3,.agg (Ns TNX))] rfl _ (B2.out wx)];refine hK.out (upV u 93 (.agg (Ns Q2))) _ hX ⟨fun h=>h2 h,fun h=>h5 h,fun _=>rfl,hX⟩ _ ?_;simp only[ae,qF,qQ,upV,reduceIte,Nat.reduceEqDiff,e2,e5];rfl
        case finxb=>
         rintro n' d u xbx ⟨h2,h5,h6,hX⟩ hd;have e89:=h2 (hd 2 rfl);have e92:=h5 (hd 5 rfl);have e93:=h6 (hd 6 rfl);simp only[ae,qF,qQ,e89,e92,e93];clear hd h2 h5 h6 e89 e92 e93;change al _ _ _ _ _ _ (n'+2) _ _ _;refine am 7 fun K hK=> ?_
         have hst:=aL (l:=Q2) (hX.get 3 rfl) (by rw[sZ',lQ2]);go_simp;refine hK.out _ _ ?_;clear hK K hst;replace hX:WD w (w.heap.size) [(q12,Ns NX,59),(q11,Ns WW,59),(q4,Ns Y,59),(w.heap.size,Ns Q2,61)] (xbx.setRow (w.heap.size) (Ns Q2)):=hX.over 3 rfl (Ns Q2);generalize xbx.setRow (w.heap.size) (Ns Q2)=xby0 at hX⊢;refine am 8 fun K hK=> ?_
         go_simp;refine hK.out _ _ ?_;clear hK K;refine ak ?_;go_wp2;refine bodyPost_ret (v:= .tuple #[.agg (Ns Q2),.bool true]) ?_ rfl ⟨by rw[(v1.out heq.out (by trivial)).2.1 h1x h2x.out],hX.below⟩;exact Rp.ua rfl _ _ w.heap.size 61 _ (0,0) _ (.bool true) rfl rfl (hX.get 3 rfl) Tryz.underlying61 rfl (by rw[sQ2];exact Tryz.infoP64)
       ·have hcn:((nX)==bt)=false:=beq_eq_false_iff_ne.mpr h2x;have ge:=hX.gt 3 rfl;go_wp2_with (first
         |(refine Rp.uf rfl 61 _ rfl [] rfl _ (hbn.out _) ?_)
         |(refine wpList_store_row rfl 61 _ _ rfl w.heap.size _ rfl rfl 61 _ ge (by rw[sZ'];exact Tryz.infoP64) rfl (aN _) ?_))
        have hE:=hX.over 3 rfl (Ns ZO);refine bodyPost_ret (v:= .tuple #[.agg (Ns ZO),.bool false]) ?_ rfl ⟨by rw[(v1.out heq.out (by trivial)).2.2 h1x h2x],hE.below⟩;exact Rp.ua rfl _ _ w.heap.size 61 _ (0,0) _ (.bool false) rfl rfl (hE.get 3 rfl) Tryz.underlying61 rfl (by rw[sZ'];exact Tryz.infoP64)
     |false=>
      go_wp2_with fail;refine ai (S:=WD w (w.heap.size) [(q12,Ns X,59),(q11,Ns WW,59),(q4,Ns Y,59),(w.heap.size,Ns ZO,61)]) (ls:= [6]) (by kernel_rfl) ?_;have hX0:WD w (w.heap.size) [(q12,Ns X,59),(q11,Ns WW,59),(q4,Ns Y,59),(w.heap.size,Ns ZO,61)] fx1.drew:=hX.drew;clear hX;generalize World.drew fx1=kd at hX0⊢;refine af 0 61 t59 (fun _ h=>h.get 0 rfl) sX hX0 ?_;try simp only[qQ]
      change al _ _ _ _ _ _ 6 #[true,false,false,false,false,false,false] _ _;refine aq (R:=fun d u w'=>(d 1=true→u 62= .agg (Ns TO))∧(d 2=true→Sl [0,1,1] (u 63) w')∧(d 3=true→Sl bits2 (u 64) w')∧(d 4=true→u 65= .agg (Ns PR))∧(d 5=true→u 66= .agg (Ns X2))∧WD w (w.heap.size) [(q12,Ns X,59),(q11,Ns WW,59),(q4,Ns Y,59),(w.heap.size,Ns ZO,61)] w') [62,63,64,65,66] [1,2,3,4,5] #[true,true,true,true,true,true,false] (by kernel_rfl) (by kernel_rfl) (by kernel_rfl) ⟨fun h=>Bool.noConfusion h,fun h=>Bool.noConfusion h,fun h=>Bool.noConfusion h,fun h=>Bool.noConfusion h,fun h=>Bool.noConfusion h,hX0⟩ ?stepsk ?fink;case stepsk=>
       refine StepsU.cons rfl ?sk1 (StepsU.cons rfl ?sk2 (StepsU.cons rfl ?sk3 (StepsU.cons rfl ?sk4 (StepsU.cons rfl ?sk5 StepsU.nil))));case sk1=>
        rintro d u wx ⟨h1,h2,h3,h4,h5,hX⟩ hd K hK;simp only[ae,qF,qQ];go_simp;go_wp2_with (go_at_call 81;refine gv J4 fun x0 k0=> ?_);refine hK.out (upV u 62 (.agg (Ns TO))) _ (hX.keep k0) ⟨fun _=>rfl,fun h=>(h2 h).keep k0,fun h=>(h3 h).keep k0,fun h=>h4 h,fun h=>h5 h,hX.keep k0⟩ _ ?_;simp only[ae,qF,qQ,upV,reduceIte,Nat.reduceEqDiff]
       case sk2=>
        rintro d u wx ⟨h1,h2,h3,h4,h5,hX⟩ hd K hK;simp only[ae,qF,qQ];go_simp;refine hK.out (upV u 63 (.slice (some ⟨wx.heap.size,0,none⟩) 3 3)) _ (hX.alloc _) ⟨fun h=>h1 h,fun _=>Sl.new wx [0,1,1],fun h=>(h3 h).alloc _,fun h=>h4 h,fun h=>h5 h,hX.alloc _⟩ _ ?_;simp only[ae,qF,qQ,upV,reduceIte,Nat.reduceEqDiff]
       case sk3=>
        rintro d u wx ⟨h1,h2,h3,h4,h5,hX⟩ hd K hK;simp only[ae,qF,qQ];go_simp;go_wp2_with (go_at_call 144;refine(b2.out _ _ (h2 (hd 2 (by kernel_rfl)))).mono ?_;rintro e x0 ⟨v0,rfl,s0,k0⟩);refine hK.out (upV u 64 (v0)) _ (hX.keep k0) ⟨fun h=>h1 h,fun h=>(h2 h).keep k0,fun _=>s0,fun h=>h4 h,fun h=>h5 h,hX.keep k0⟩ _ ?_;simp only[ae,qF,qQ,upV,reduceIte,Nat.reduceEqDiff]
       case sk4=>
        rintro d u wx ⟨h1,h2,h3,h4,h5,hX⟩ hd K hK;have e1:=h1 (hd 1 (by kernel_rfl));simp only[ae,qF,qQ,e1];go_simp;go_wp2_with (go_at_call 145;refine(p2.out _ _ (h3 (hd 3 (by kernel_rfl)))).mono ?_;rintro e x0 ⟨rfl,k0⟩);refine hK.out (upV u 65 (.agg (Ns PR))) _ (hX.keep k0) ⟨fun h=>h1 h,fun h=>(h2 h).keep k0,fun h=>(h3 h).keep k0,fun _=>rfl,fun h=>h5 h,hX.keep k0⟩ _ ?_;simp only[ae,qF,qQ,upV,reduceIte,Nat.reduceEqDiff,e1]
       case sk5=>
        rintro d u wx ⟨h1,h2,h3,h4,h5,hX⟩ hd K hK;have e4:=h4 (hd 4 (by kernel_rfl));simp only[ae,qF,qQ,e4];go_simp;go_wp2_with (go_at_call 84;refine gv J5 fun x0 k0=> ?_);refine hK.out (upV u 66 (.agg (Ns X2))) _ (hX.keep k0) ⟨fun h=>h1 h,fun h=>(h2 h).keep k0,fun h=>(h3 h).keep k0,fun h=>h4 h,fun _=>rfl,hX.keep k0⟩ _ ?_;simp only[ae,qF,qQ,upV,reduceIte,Nat.reduceEqDiff,e4]
      case fink=>
       rintro n' d u kx ⟨h1,h2,h3,h4,h5,hX⟩ hd;have e62:=h1 (hd 1 rfl);have e65:=h4 (hd 4 rfl);have e66:=h5 (hd 5 rfl);simp only[ae,qF,qQ,e62,e65,e66];clear hd h1 h2 h3 h4 h5 e62 e65 e66;generalize u 63=u63;generalize u 64=u64;change al _ _ _ _ _ _ (n'+1) _ _ _;refine am 6 fun K hK=> ?_
       have hst:=aL (l:=X2) (hX.get 0 rfl) (by rw[sX,hX2]);go_simp;refine hK.out _ _ ?_;clear hK K hst;replace hX:WD w (w.heap.size) [(q12,Ns X2,59),(q11,Ns WW,59),(q4,Ns Y,59),(w.heap.size,Ns ZO,61)] (kx.setRow (q12) (Ns X2)):=hX.over 0 rfl (Ns X2);generalize kx.setRow (q12) (Ns X2)=ky0 at hX⊢;refine ak ?_;go_wp2_with fail;refine ai (S:=WD w (w.heap.size) [(q12,Ns X2,59),(q11,Ns WW,59),(q4,Ns Y,59),(w.heap.size,Ns ZO,61)]) (ls:= []) (by kernel_rfl) ?_;have hX0:WD w (w.heap.size) [(q12,Ns X2,59),(q11,Ns WW,59),(q4,Ns Y,59),(w.heap.size,Ns ZO,61)] ky0.drew:=hX.drew;clear hX;generalize World.drew ky0=md at hX0⊢;refine af 0 67 t59 (fun _ h=>h.get 0 rfl) sX2 hX0 ?_;refine af 1 68 t59 (fun _ h=>h.get 0 rfl) sX2 hX0 ?_;refine af 3 70 t59 (fun _ h=>h.get 1 rfl) sWW hX0 ?_;try simp only[qQ]
       refine aj 2 fun K hK=> ?_
       go_simp;go_wp2_with (go_at_call 84;refine gv J6 fun mx0 k0=> ?_);have hX1:=hX0.keep k0;refine hK.out _ _ hX1 ?_;try simp only[qQ]
       clear hK K k0 hX0;refine aj 4 fun K hK=> ?_
       go_simp;go_wp2_with (go_at_call 146;refine gv J7 fun mx1 k0=> ?_);have hX2:=hX1.keep k0;refine hK.out _ _ hX2 ?_;try simp only[qQ]
       clear hK K k0 hX1;refine ac 5 13 (v:= .bool ok2) hX2 ?_;simp only[qQ];refine ak ?_;have hX:=hX2;clear hX2;cases ok2 with
       |true=>
        have g26:=hX.gt 0 rfl;go_wp2_with (first
         |(refine ldN rfl rfl (q12) rfl g26 sX2 ?_))
        clear g26;refine gv L1 fun x27 k27=> ?_
        replace hX:=hX.keep k27;clear k27;by_cases h1z:oX2=bt
        ·replace h1z:Hid (oX2=bt):=h1z;have hcm:Hid True:=trivial;rw[h1z.out];clear hcm;have g28:=hX.gt 0 rfl;go_wp2_with (first
          |(refine ldN rfl rfl (q12) rfl g28 sX2 ?_))
         clear g28;refine gv L1 fun x29 k29=> ?_
         replace hX:=hX.keep k29;clear k29;rw[h1z.out];go_wp2_with fail;refine ai (S:=WD w (w.heap.size) [(q12,Ns X2,59),(q11,Ns WW,59),(q4,Ns Y,59),(w.heap.size,Ns ZO,61)]) (ls:= [7,8]) (by kernel_rfl) ?_;have hX0:WD w (w.heap.size) [(q12,Ns X2,59),(q11,Ns WW,59),(q4,Ns Y,59),(w.heap.size,Ns ZO,61)] x29.drew:=hX.drew;clear hX;generalize World.drew x29=zad at hX0⊢;refine af 0 87 t59 (fun _ h=>h.get 0 rfl) sX2 hX0 ?_;refine af 1 88 t59 (fun _ h=>h.get 2 rfl) sY hX0 ?_;refine af 3 90 t59 (fun _ h=>h.get 0 rfl) sX2 hX0 ?_;simp only[qQ];refine af 4 91 t59 (fun _ h=>h.get 2 rfl) sY hX0 ?_;try simp only[qQ]
         change al _ _ _ _ _ _ 5 #[true,true,false,true,true,false,false,false,false] _ _;refine aq (R:=fun d u w'=>(d 2=true→u 89= .agg (Ns ON))∧(d 5=true→u 92= .agg (Ns TX2))∧(d 6=true→u 93= .agg (Ns Q3))∧WD w (w.heap.size) [(q12,Ns X2,59),(q11,Ns WW,59),(q4,Ns Y,59),(w.heap.size,Ns ZO,61)] w') [89,92,93] [2,5,6] #[true,true,true,true,true,true,true,false,false] (by kernel_rfl) (by kernel_rfl) (by kernel_rfl) ⟨fun h=>Bool.noConfusion h,fun h=>Bool.noConfusion h,fun h=>Bool.noConfusion h,hX0⟩ ?stepsza ?finza;case stepsza=>
          refine StepsU.cons rfl ?sza2 (StepsU.cons rfl ?sza5 (StepsU.cons rfl ?sza6 StepsU.nil));case sza2=>
           rintro d u wx ⟨h2,h5,h6,hX⟩ hd K hK;simp only[ae,qF,qQ];go_simp;go_wp2_with (go_at_call 81;refine gv H5 fun x0 k0=> ?_);refine hK.out (upV u 89 (.agg (Ns ON))) _ (hX.keep k0) ⟨fun _=>rfl,fun h=>h5 h,fun h=>h6 h,hX.keep k0⟩ _ ?_;simp only[ae,qF,qQ,upV,reduceIte,Nat.reduceEqDiff]
          case sza5=>
           rintro d u wx ⟨h2,h5,h6,hX⟩ hd K hK;simp only[ae,qF,qQ];go_simp;go_wp2_with (go_at_call 84;refine gv L4 fun x0 k0=> ?_);refine hK.out (upV u 92 (.agg (Ns TX2))) _ (hX.keep k0) ⟨fun h=>h2 h,fun _=>rfl,fun h=>h6 h,hX.keep k0⟩ _ ?_;simp only[ae,qF,qQ,upV,reduceIte,Nat.reduceEqDiff]
          case sza6=>
           rintro d u wx ⟨h2,h5,h6,hX⟩ hd K hK;have e2:=h2 (hd 2 (by kernel_rfl));have e5:=h5 (hd 5 (by kernel_rfl));simp only[ae,qF,qQ,e2,e5];rw[if_pos (by rfl)];unfold Oper.wp;rw[Rp.ub 61 _ rfl [(0,.agg (Ns X2)),(1,.agg (Ns Y)),(2,.agg (Ns ON)),(3,.agg (Ns TX2))] rfl _ (B3.out wx)];refine hK.out (upV u 93 (.agg (Ns Q3))) _ hX ⟨fun h=>h2 h,fun h=>h5 h,fun _=>rfl,hX⟩ _ ?_;simp only[ae,qF,qQ,upV,reduceIte,Nat.reduceEqDiff,e2,e5];rfl
         case finza=>
          rintro n' d u zax ⟨h2,h5,h6,hX⟩ hd;have e89:=h2 (hd 2 rfl);have e92:=h5 (hd 5 rfl);have e93:=h6 (hd 6 rfl);simp only[ae,qF,qQ,e89,e92,e93];clear hd h2 h5 h6 e89 e92 e93;change al _ _ _ _ _ _ (n'+2) _ _ _;refine am 7 fun K hK=> ?_
          have hst:=aL (l:=Q3) (hX.get 3 rfl) (by rw[sZ',lQ3]);go_simp;refine hK.out _ _ ?_;clear hK K hst;replace hX:WD w (w.heap.size) [(q12,Ns X2,59),(q11,Ns WW,59),(q4,Ns Y,59),(w.heap.size,Ns Q3,61)] (zax.setRow (w.heap.size) (Ns Q3)):=hX.over 3 rfl (Ns Q3);generalize zax.setRow (w.heap.size) (Ns Q3)=zay0 at hX⊢;refine am 8 fun K hK=> ?_
          go_simp;refine hK.out _ _ ?_;clear hK K;refine ak ?_;go_wp2;refine bodyPost_ret (v:= .tuple #[.agg (Ns Q3),.bool true]) ?_ rfl ⟨by rw[(v2.out heq.out (by trivial) (by trivial)).1 h1z.out],hX.below⟩;exact Rp.ua rfl _ _ w.heap.size 61 _ (0,0) _ (.bool true) rfl rfl (hX.get 3 rfl) Tryz.underlying61 rfl (by rw[sQ3];exact Tryz.infoP64)
        ·have hcm:((oX2)==bt)=false:=beq_eq_false_iff_ne.mpr h1z;go_wp2_with fail;refine ai (S:=WD w (w.heap.size) [(q12,Ns X2,59),(q11,Ns WW,59),(q4,Ns Y,59),(w.heap.size,Ns ZO,61)]) (ls:= [3]) (by kernel_rfl) ?_;have hX0:WD w (w.heap.size) [(q12,Ns X2,59),(q11,Ns WW,59),(q4,Ns Y,59),(w.heap.size,Ns ZO,61)] x27.drew:=hX.drew;clear hX;generalize World.drew x27=znd at hX0⊢;refine af 1 80 t59 (fun _ h=>h.get 0 rfl) sX2 hX0 ?_;try simp only[qQ]
         refine aj 0 fun K hK=> ?_
         go_simp;go_wp2_with (go_at_call 81;refine gv K0 fun znx0 k0=> ?_);have hX1:=hX0.keep k0;refine hK.out _ _ hX1 ?_;try simp only[qQ]
         clear hK K k0 hX0;refine aj 2 fun K hK=> ?_
         go_simp;go_wp2_with (go_at_call 140;refine gv L2 fun znx1 k0=> ?_);have hX2:=hX1.keep k0;refine hK.out _ _ hX2 ?_;try simp only[qQ]
         clear hK K k0 hX1;refine am 3 fun K hK=> ?_
         have hst:=aL (l:=NX2) (hX2.get 0 rfl) (by rw[sX2,hNX2]);go_simp;refine hK.out _ _ ?_;clear hK K hst;replace hX2:WD w (w.heap.size) [(q12,Ns NX2,59),(q11,Ns WW,59),(q4,Ns Y,59),(w.heap.size,Ns ZO,61)] (znx1.setRow (q12) (Ns NX2)):=hX2.over 0 rfl (Ns NX2);generalize znx1.setRow (q12) (Ns NX2)=zny0 at hX2⊢;refine ak ?_;have hX:=hX2;clear hX2;have g30:=hX.gt 0 rfl;go_wp2_with (first
          |(refine ldN rfl rfl (q12) rfl g30 sNX2 ?_))
         clear g30;refine gv L3 fun x31 k31=> ?_
         replace hX:=hX.keep k31;clear k31;by_cases h2z:nX2=bt
         ·replace h2z:Hid (nX2=bt):=h2z;rw[h2z.out];go_wp2_with fail;refine ai (S:=WD w (w.heap.size) [(q12,Ns NX2,59),(q11,Ns WW,59),(q4,Ns Y,59),(w.heap.size,Ns ZO,61)]) (ls:= [7,8]) (by kernel_rfl) ?_;have hX0:WD w (w.heap.size) [(q12,Ns NX2,59),(q11,Ns WW,59),(q4,Ns Y,59),(w.heap.size,Ns ZO,61)] x31.drew:=hX.drew;clear hX;generalize World.drew x31=zbd at hX0⊢;refine af 0 87 t59 (fun _ h=>h.get 0 rfl) sNX2 hX0 ?_;refine af 1 88 t59 (fun _ h=>h.get 2 rfl) sY hX0 ?_;refine af 3 90 t59 (fun _ h=>h.get 0 rfl) sNX2 hX0 ?_;simp only[qQ];refine af 4 91 t59 (fun _ h=>h.get 2 rfl) sY hX0 ?_;try simp only[qQ]
          change al _ _ _ _ _ _ 5 #[true,true,false,true,true,false,false,false,false] _ _;refine aq (R:=fun d u w'=>(d 2=true→u 89= .agg (Ns ON))∧(d 5=true→u 92= .agg (Ns TNX2))∧(d 6=true→u 93= .agg (Ns Q4))∧WD w (w.heap.size) [(q12,Ns NX2,59),(q11,Ns WW,59),(q4,Ns Y,59),(w.heap.size,Ns ZO,61)] w') [89,92,93] [2,5,6] #[true,true,true,true,true,true,true,false,false] (by kernel_rfl) (by kernel_rfl) (by kernel_rfl) ⟨fun h=>Bool.noConfusion h,fun h=>Bool.noConfusion h,fun h=>Bool.noConfusion h,hX0⟩ ?stepszb ?finzb;case stepszb=>
           refine StepsU.cons rfl ?szb2 (StepsU.cons rfl ?szb5 (StepsU.cons rfl ?szb6 StepsU.nil));case szb2=>
            rintro d u wx ⟨h2,h5,h6,hX⟩ hd K hK;simp only[ae,qF,qQ];go_simp;go_wp2_with (go_at_call 81;refine gv H5 fun x0 k0=> ?_);refine hK.out (upV u 89 (.agg (Ns ON))) _ (hX.keep k0) ⟨fun _=>rfl,fun h=>h5 h,fun h=>h6 h,hX.keep k0⟩ _ ?_;simp only[ae,qF,qQ,upV,reduceIte,Nat.reduceEqDiff]
           case szb5=>
            rintro d u wx ⟨h2,h5,h6,hX⟩ hd K hK;simp only[ae,qF,qQ];go_simp;go_wp2_with (go_at_call 84;refine gv L5 fun x0 k0=> ?_);refine hK.out (upV u 92 (.agg (Ns TNX2))) _ (hX.keep k0) ⟨fun h=>h2 h,fun _=>rfl,fun h=>h6 h,hX.keep k0⟩ _ ?_;simp only[ae,qF,qQ,upV,reduceIte,Nat.reduceEqDiff]
           case szb6=>
            rintro d u wx ⟨h2,h5,h6,hX⟩ hd K hK;have e2:=h2 (hd 2 (by kernel_rfl));have e5:=h5 (hd 5 (by kernel_rfl));simp only[ae,qF,qQ,e2,e5];rw[if_pos (by rfl)];unfold Oper.wp;rw[Rp.ub 61 _ rfl [(0,.agg (Ns NX2)),(1,.agg (Ns Y)),(2,.agg (Ns ON)),(3,.agg (Ns TNX2))] rfl _ (B4.out wx)];refine hK.out (upV u 93 (.agg (Ns Q4))) _ hX ⟨fun h=>h2 h,fun h=>h5 h,fun _=>rfl,hX⟩ _ ?_;simp only[ae,qF,qQ,upV,reduceIte,Nat.reduceEqDiff,e2,e5];rfl
          case finzb=>
           rintro n' d u zbx ⟨h2,h5,h6,hX⟩ hd;have e89:=h2 (hd 2 rfl);have e92:=h5 (hd 5 rfl);have e93:=h6 (hd 6 rfl);simp only[ae,qF,qQ,e89,e92,e93];clear hd h2 h5 h6 e89 e92 e93;change al _ _ _ _ _ _ (n'+2) _ _ _;refine am 7 fun K hK=> ?_
           have hst:=aL (l:=Q4) (hX.get 3 rfl) (by rw[sZ',lQ4]);go_simp;refine hK.out _ _ ?_;clear hK K hst;replace hX:WD w (w.heap.size) [(q12,Ns NX2,59),(q11,Ns WW,59),(q4,Ns Y,59),(w.heap.size,Ns Q4,61)] (zbx.setRow (w.heap.size) (Ns Q4)):=hX.over 3 rfl (Ns Q4);generalize zbx.setRow (w.heap.size) (Ns Q4)=zby0 at hX⊢;refine am 8 fun K hK=> ?_
           go_simp;refine hK.out _ _ ?_;clear hK K;refine ak ?_;go_wp2;refine bodyPost_ret (v:= .tuple #[.agg (Ns Q4),.bool true]) ?_ rfl ⟨by rw[(v2.out heq.out (by trivial) (by trivial)).2.1 h1z h2z.out],hX.below⟩;exact Rp.ua rfl _ _ w.heap.size 61 _ (0,0) _ (.bool true) rfl rfl (hX.get 3 rfl) Tryz.underlying61 rfl (by rw[sQ4];exact Tryz.infoP64)
         ·have hcn:((nX2)==bt)=false:=beq_eq_false_iff_ne.mpr h2z;have ge:=hX.gt 3 rfl;go_wp2_with (first
           |(refine Rp.uf rfl 61 _ rfl [] rfl _ (hbn.out _) ?_)
           |(refine wpList_store_row rfl 61 _ _ rfl w.heap.size _ rfl rfl 61 _ ge (by rw[sZ'];exact Tryz.infoP64) rfl (aN _) ?_))
          have hE:=hX.over 3 rfl (Ns ZO);refine bodyPost_ret (v:= .tuple #[.agg (Ns ZO),.bool false]) ?_ rfl ⟨by rw[(v2.out heq.out (by trivial) (by trivial)).2.2 h1z h2z],hE.below⟩;exact Rp.ua rfl _ _ w.heap.size 61 _ (0,0) _ (.bool false) rfl rfl (hE.get 3 rfl) Tryz.underlying61 rfl (by rw[sZ'];exact Tryz.infoP64)
       |false=>
        have ge:=hX.gt 3 rfl;go_wp2_with (first
         |(refine Rp.uf rfl 61 _ rfl [] rfl _ (hbn.out _) ?_)
         |(refine wpList_store_row rfl 61 _ _ rfl w.heap.size _ rfl rfl 61 _ ge (by rw[sZ'];exact Tryz.infoP64) rfl (aN _) ?_))
        have hE:=hX.over 3 rfl (Ns ZO);refine bodyPost_ret (v:= .tuple #[.agg (Ns ZO),.bool false]) ?_ rfl ⟨by rw[v3.out heq.out (by trivial) (by trivial)],hE.below⟩;exact Rp.ua rfl _ _ w.heap.size 61 _ (0,0) _ (.bool false) rfl rfl (hE.get 3 rfl) Tryz.underlying61 rfl (by rw[sZ'];exact Tryz.infoP64)
 ·have hcm:=Rp.Ba heq;refine ac 4 32 (v:= .bool true) hT ?_;try simp only[qQ]
  have hX:=hT.1;clear hT;refine ak ?_;have ge:=hX.gt 1 rfl;go_wp2_with (first
   |(refine Rp.uf rfl 61 _ rfl [] rfl _ (hbn.out _) ?_)
   |(refine wpList_store_row rfl 61 _ _ rfl w.heap.size _ rfl rfl 61 _ ge (by rw[sZ'];exact Tryz.infoP64) rfl (aN _) ?_))
  have hE:=hX.over 1 rfl (Ns ZO);refine bodyPost_ret (v:= .tuple #[.agg (Ns ZO),.bool false]) ?_ rfl ⟨by rw[v0.out heq],hE.below⟩;exact Rp.ua rfl _ _ w.heap.size 61 _ (0,0) _ (.bool false) rfl rfl (hE.get 1 rfl) Tryz.underlying61 rfl (by rw[sZ'];exact Tryz.infoP64)
end Go.Proofs.YtclpbaokadfhhaaGreatDoor
