import Derived.Test.YtclpbaokadfhhaaGreatDoorZe
import Derived.Test.YtclpbaokadfhhaaGreatDoorXk
set_option maxRecDepth 100000
set_option maxHeartbeats 20000000
namespace Go.Proofs.YtclpbaokadfhhaaGreatDoor
open Go.RowKit
theorem Tryz.infoP64:(Tryz.prog.info? 61).map (·.size)=some 64:=by kernel_rfl
theorem t61:Ty 61 64:=⟨_,Tryz.underlying61,rfl,Tryz.infoP64⟩
namespace Rp
def qt(X Y Z T:List Int):List Int:=X++Y++Z++T
theorem uy{X Y Z T:List Int}(hX:X.length=16)(hY:Y.length=16)(hZ:Z.length=16)(hT:T.length=16):(qt X Y Z T).length=64:=by simp[qt,hX,hY,hZ,hT]
theorem row_qt(p:Pn):row p=qt p.x p.y p.z p.t:=rfl
theorem cE{w:World}{b t:Nat}{X Y Z:List Int}(h:Blk w b (Ns (X++Y++Z)) t):w.rangeAt b X.length (Ns Y).toList:=by
 intro j v hv;rw[h.cell];have hj:j<Y.length:=by have:=(List.getElem?_eq_some_iff.1 hv).1;simpa [Ns]using this
 rw[Array.getElem?_toList]at hv;have e:(Ns (X++Y++Z))[X.length+j]? =(Ns Y)[j]? :=by
  simp only[Ns,List.getElem?_toArray,List.getElem?_map];rw[List.append_assoc,List.getElem?_append_right (by omega),Nat.add_sub_cancel_left,List.getElem?_append_left hj]
 rw[e];exact hv
theorem ptX{w:World}{b t:Nat}{X Y Z T:List Int}(h:Blk w b (Ns (qt X Y Z T)) t):w.rangeAt b 0 (Ns X).toList:=by
 have:qt X Y Z T= []++X++(Y++Z++T):=by simp[qt]
 rw[this]at h;exact cE h
theorem ptY{w:World}{b t:Nat}{X Y Z T:List Int}(h:Blk w b (Ns (qt X Y Z T)) t)(hX:X.length=16):w.rangeAt b 16 (Ns Y).toList:=by
 have:qt X Y Z T=X++Y++(Z++T):=by simp[qt]
 rw[this]at h;have:=cE h;rw[hX]at this;exact this
theorem ptZ{w:World}{b t:Nat}{X Y Z T:List Int}(h:Blk w b (Ns (qt X Y Z T)) t)(hX:X.length=16)(hY:Y.length=16):w.rangeAt b 32 (Ns Z).toList:=by
 have:qt X Y Z T=(X++Y)++Z++T:=by simp[qt]
 rw[this]at h;have:=cE h;rw[List.length_append,hX,hY]at this;exact this
theorem ptT{w:World}{b t:Nat}{X Y Z T:List Int}(h:Blk w b (Ns (qt X Y Z T)) t)(hX:X.length=16)(hY:Y.length=16)(hZ:Z.length=16):w.rangeAt b 48 (Ns T).toList:=by
 have:qt X Y Z T=(X++Y++Z)++T++ []:=by simp[qt]
 rw[this]at h;have:=cE h;rw[List.length_append,List.length_append,hX,hY,hZ]at this;exact this
theorem uD{P:Program}{o:Oper}{a:Act}{w:World}(ty:TypeId)(x:Operand)(ho:o.op= .load ty x)
  (b off:Nat) (hx:a.eval x= .pointer (some ⟨b,off,none⟩)) (cs:Array Value) (d:TypeDesc) (hc:w.rangeAt b off cs.toList)
  (hu:P.underlying ty=some d) (hd:d.isRow=true) (hi:(P.info? ty).map (·.size)=some cs.size):
  (execOp a.eval o).run P w= .ok (.value (.agg cs)) w:=by
 have h:=run_loadVar_mid w b off ty cs.toList d hc hu hd (by simpa using hi);rw[Array.toArray_toList]at h;unfold execOp;simp only[ho,hx,Instr.loadAt,Instr.sureAddr,Sem.run_bind,Sem.run_pure,Result.andThen_ok,h]
theorem ul{P:Program}{ops:Array Oper}{rest:List Oper}{o:Oper}{a:Act}{w:World}{Q:Exit→Act→World→Prop}(hgd:o.guard=none)(ty:TypeId)(x:Operand)(ho:o.op= .load ty x)
  (b off:Nat) (hx:a.eval x= .pointer (some ⟨b,off,none⟩)) (cs:Array Value) (d:TypeDesc) (hc:w.rangeAt b off cs.toList)
  (hu:P.underlying ty=some d) (hd:d.isRow=true) (hi:(P.info? ty).map (·.size)=some cs.size)
  (h:wpList P ops Q rest (a.put o.dst (.agg cs)) w):wpList P ops Q (o::rest) a w:=
 wpList_load_mid hgd ty x ho b off hx cs.toList d hc hu hd (by simpa using hi) (by rw[Array.toArray_toList];exact h)
theorem ub{P:Program}{o:Oper}{a:Act}{w:World}(t:TypeId)(parts:List (Nat×Operand))(ho:o.op= .build t parts.toArray)(vs:List (Nat×Value))(hv:parts.map (fun p=>(p.1,a.eval p.2))=vs)
  (cells:Array Value) (h:(Instr.build t vs.toArray).run P w= .ok (.agg cells) w):(execOp a.eval o).run P w= .ok (.value (.agg cells)) w:=by
 have e:(parts.toArray.map fun(i,x)=>(i,a.eval x))=vs.toArray:=by rw[←hv];simp
 unfold execOp;simp only[ho,e,Sem.run_bind,Sem.run_pure,Result.andThen_ok,h]
theorem uf{P:Program}{ops:Array Oper}{rest:List Oper}{o:Oper}{a:Act}{w:World}{Q:Exit→Act→World→Prop}(hgd:o.guard=none)(t:TypeId)(parts:List (Nat×Operand))(ho:o.op= .build t parts.toArray)
  (vs:List (Nat×Value)) (hv:parts.map (fun p=>(p.1,a.eval p.2))=vs) (cells:Array Value) (h:(Instr.build t vs.toArray).run P w= .ok (.agg cells) w)
  (hr:wpList P ops Q rest (a.put o.dst (.agg cells)) w):wpList P ops Q (o::rest) a w:=
 wpList_plain hgd fun K hK=>by
  unfold Oper.wp;rw[ub t parts ho vs hv cells h];exact hK _ _ hr
theorem sixteen(l:List Int)(h:l.length=16): ∃a b c d e f g h' i j k m n o p q,l= [a,b,c,d,e,f,g,h',i,j,k,m,n,o,p,q]:=by
 match l,h with
 | [a,b,c,d,e,f,g,h',i,j,k,m,n,o,p,q],_=>exact⟨_,_,_,_,_,_,_,_,_,_,_,_,_,_,_,_,rfl⟩
theorem uE(w:World)(o:Obj):(w.alloc o).heap.size=w.heap.size+1:=by simp
def Z64:List Int:=List.replicate 64 0
theorem wR:Z64.length=64:=rfl
theorem xz(w:World):Sem.run Tryz.prog (zeroValue 61) w= .ok (.agg (Ns Z64)) w:=by kernel_rfl
theorem Ap(w:World):(Instr.build 61 #[]).run Tryz.prog w= .ok (.agg (Ns Z64)) w:=run_build w _ _ _ (by kernel_rfl)
theorem xV(a b:Int)(w:World):(Instr.build 59 #[(0,.int .i64 a),(1,.int .i64 b)]).run Tryz.prog w= .ok (.agg (Ns (xM a b))) w:=run_build w _ _ _ (by kernel_rfl)
theorem xi(X Y Z T:List Int)(hX:X.length=16)(hY:Y.length=16)(hZ:Z.length=16)(hT:T.length=16)(w:World):
  (Instr.build 61 #[(0,.agg (Ns X)),(1,.agg (Ns Y)),(2,.agg (Ns Z)),(3,.agg (Ns T))]).run Tryz.prog w= .ok (.agg (Ns (qt X Y Z T))) w:=by
 obtain⟨a0,a1,a2,a3,a4,a5,a6,a7,a8,a9,a10,a11,a12,a13,a14,a15,rfl⟩:=sixteen X hX;obtain⟨b0,b1,b2,b3,b4,b5,b6,b7,b8,b9,b10,b11,b12,b13,b14,b15,rfl⟩:=sixteen Y hY;obtain⟨c0,c1,c2,c3,c4,c5,c6,c7,c8,c9,c10,c11,c12,c13,c14,c15,rfl⟩:=sixteen Z hZ;obtain⟨d0,d1,d2,d3,d4,d5,d6,d7,d8,d9,d10,d11,d12,d13,d14,d15,rfl⟩:=sixteen T hT;exact run_build w _ _ _ (by kernel_rfl)
end Rp
theorem aI(a b:List Int)(ha:Fd.Good a)(hb:Fd.Good b)(w:World):Rw 84 #[.agg (Ns a),.agg (Ns b)] w (.agg (Ns (Fd.by_ a b))):=iv a b w ha.1 hb.1 ha.bd hb.bd
theorem bE(a b:List Int)(ha:Fd.Good a)(hb:Fd.Good b)(w:World):Rw 80 #[.agg (Ns a),.agg (Ns b)] w (.agg (Ns (Fd.plus a b))):=oH a b w ha.1 hb.1 ha.bd' hb.bd'
theorem aR(a b:List Int)(ha:Fd.Good a)(hb:Fd.Good b)(w:World):Rw 140 #[.agg (Ns a),.agg (Ns b)] w (.agg (Ns (Fd.minus a b))):=nv a b w ha.1 hb.1 ha.bd' hb.bd'
theorem iC(a:List Int)(ha:Fd.Good a)(w:World):Rw 87 #[.agg (Ns a)] w (.string ⟨(Fd.told a).toArray⟩):=eE a w ha.1 ha.bd2
def Fd.odd(a:List Int):Bool:=(((Fd.told a).getD 0 0).toNat:Int)%2==1
def Fd.yr(a b:List Int):Bool:=decide (Fd.told a=Fd.told b)
theorem iD(a:List Int)(ha:Fd.Good a)(w:World):Rw 88 #[.agg (Ns a)] w (.bool (Fd.odd a)):=by
 refine(qv a w ha.1 ha.bd2).mono ?_;rintro e w' ⟨b,rfl,hb,h⟩;refine⟨?_,h⟩;have:b=Fd.odd a:=by unfold Fd.odd;exact hb
 rw[this]
theorem nT(a b:List Int)(ha:Fd.Good a)(hb:Fd.Good b)(w:World):Rw 146 #[.agg (Ns a),.agg (Ns b)] w (.bool (Fd.yr a b)):=by
 refine(oC a b w ha.1 ha.bd2 hb.1 hb.bd2).mono ?_;rintro e w' ⟨q,rfl,hq,h⟩;refine⟨?_,h⟩;have:q=Fd.yr a b:=by
  unfold Fd.yr;by_cases hh:Fd.told a=Fd.told b
  ·rw[decide_eq_true hh];exact hq.2 hh
  ·rw[decide_eq_false hh];cases q with
   |false=>rfl
   |true=>exact absurd (hq.1 rfl) hh
 rw[this]
theorem gQ(w:World):Rw 79 #[] w (.agg (Ns Rp.factor)):=by
 have hz:=bC;have H1:Hid (Rv 81 #[.int .i64 0] (.agg (Ns (Fd.small 0)))):=fun wx=>bj 0 wx
 have gO:=Rp.wF;generalize hO:Fd.small 0=O at H1 gO;replace hO:Hid (Fd.small 0=O):=hO;have B1:Hid (∀wx:World,(Instr.build 59 #[(0,.int .i64 56129),(1,.int .i64 1)]).run Tryz.prog wx= .ok (.agg (Ns (Rp.xM 56129 1))) wx):=Rp.xV _ _;have B2:Hid (∀wx:World,(Instr.build 59 #[(0,.int .i64 56130),(1,.int .i64 1)]).run Tryz.prog wx= .ok (.agg (Ns (Rp.xM 56130 1))) wx):=Rp.xV _ _;have gM:=Rp.yC 56129 1 (by omega) (by omega);have gN:=Rp.yC 56130 1 (by omega) (by omega);have HR:Hid (Rp.factor=Fd.by_ (Fd.minus (Fd.small 0) (Rp.xM 56129 1)) (Fd.inv (Rp.xM 56130 1))):=rfl;rw[hO.out]at HR;clear hO;generalize Rp.factor=R at HR⊢;generalize Rp.xM 56129 1=M at B1 gM HR;generalize Rp.xM 56130 1=N at B2 gN HR;have H2:Hid (Rv 140 #[.agg (Ns O),.agg (Ns M)] (.agg (Ns (Fd.minus O M)))):=fun wx=>aR O M gO gM wx
 have gA:=Fd.tO O M gO gM;generalize Fd.minus O M=A at H2 gA HR;have H3:Hid (Rv 85 #[.agg (Ns N)] (.agg (Ns (Fd.inv N)))):=fun wx=>cq N wx gN
 have gB:=Fd.uv N gN;generalize Fd.inv N=B at H3 gB HR;have H4:Hid (Rv 84 #[.agg (Ns A),.agg (Ns B)] (.agg (Ns (Fd.by_ A B)))):=fun wx=>aI A B gA gB wx
 have gR:=Fd.tN A B gA gB;generalize Fd.by_ A B=R' at H4 gR HR;have hr:R=R':=HR.out;subst hr;clear HR;have sA:=Nz gA.1;have sB:=Nz gB.1;have sR:=Nz gR.1;clear gO gM gN gA gB gR;have hX:WD w w.heap.size [(w.heap.size,Ns Fd.zN,59)] (w.alloc (.cells (Ns Fd.zN) 59)):=(WD.start (w:=w)).new (Ns Fd.zN) 59;go_enter Tryz.func79,Tryz.ntmps79;go_wp2_with fail;generalize w.alloc (.cells (Ns Fd.zN) 59)=w1 at hX⊢;refine gv H1 fun x1 k1=> ?_
 replace hX:=hX.keep k1;clear k1;go_wp2_with (first
  |(refine Rp.uf rfl 59 _ rfl [(0,.int .i64 56129),(1,.int .i64 1)] rfl _ (B1.out _) ?_))
 refine gv H2 fun x2 k2=> ?_
 replace hX:=hX.keep k2;clear k2;have hN:=hX.new (Ns Fd.zN) 59;have g3:=hN.gt 0 rfl;replace hX:WD w (w.heap.size) [(x2.heap.size,Ns A,59),(w.heap.size,Ns Fd.zN,59)] ((x2.alloc (.cells (Ns Fd.zN) 59)).setRow x2.heap.size (Ns A)):=hN.over 0 rfl (Ns A);go_wp2_with (first
  |(refine stN rfl rfl x2.heap.size rfl rfl g3 sA rfl ?_)
  |(refine Rp.uf rfl 59 _ rfl [(0,.int .i64 56130),(1,.int .i64 1)] rfl _ (B2.out _) ?_))
 clear hN g3;generalize (x2.alloc (.cells (Ns Fd.zN) 59)).setRow x2.heap.size (Ns A)=v4 at hX⊢;generalize x2.heap.size=q1 at hX⊢;refine gv H3 fun x5 k5=> ?_
 replace hX:=hX.keep k5;clear k5;have hN:=hX.new (Ns Fd.zN) 59;have g6:=hN.gt 0 rfl;replace hX:WD w (w.heap.size) [(x5.heap.size,Ns B,59),(q1,Ns A,59),(w.heap.size,Ns Fd.zN,59)] ((x5.alloc (.cells (Ns Fd.zN) 59)).setRow x5.heap.size (Ns B)):=hN.over 0 rfl (Ns B);have g7:=hX.gt 1 rfl;have g8:=hX.gt 0 rfl;go_wp2_with (first
  |(refine stN rfl rfl x5.heap.size rfl rfl g6 sB rfl ?_)
  |(refine ldN rfl rfl (q1) rfl g7 sA ?_)
  |(refine ldN rfl rfl (x5.heap.size) rfl g8 sB ?_))
 clear hN g6 g7 g8;generalize (x5.alloc (.cells (Ns Fd.zN) 59)).setRow x5.heap.size (Ns B)=v9 at hX⊢;generalize x5.heap.size=q2 at hX⊢;refine gv H4 fun x10 k10=> ?_
 replace hX:=hX.keep k10;clear k10;have g11:=hX.gt 2 rfl;replace hX:WD w (w.heap.size) [(q2,Ns B,59),(q1,Ns A,59),(w.heap.size,Ns R,59)] (x10.setRow (w.heap.size) (Ns R)):=hX.over 2 rfl (Ns R);go_wp2_with (first
  |(refine stN rfl rfl (w.heap.size) rfl rfl g11 sR rfl ?_))
 clear g11;generalize x10.setRow (w.heap.size) (Ns R)=v12 at hX⊢;refine bodyPost_ret (v:= .agg (Ns R)) ?_ rfl ⟨rfl,hX.below⟩;exact rr t59 rfl rfl (hX.get 2 rfl) sR
theorem sk(X1 Y1 Z1 T1 X2 Y2 Z2 T2 TW M1 M2 A P1 P2 B C1 C D0 D E F G H RX RY RZ RT:List Int)(w:World)
  (hX1:X1.length=16) (hY1:Y1.length=16) (hZ1:Z1.length=16) (hT1:T1.length=16) (hX2:X2.length=16) (hY2:Y2.length=16) (hZ2:Z2.length=16) (hT2:T2.length=16) (hTW:TW.length=16)
  (hA:A.length=16) (hB:B.length=16) (hC:C.length=16) (hD0:D0.length=16) (hD:D.length=16) (hE:E.length=16) (hF:F.length=16) (hG:G.length=16) (hH:H.length=16) (hRX:RX.length=16) (hRY:RY.length=16) (hRZ:RZ.length=16) (hRT:RT.length=16)
  (H1:Hid (Rv 140 #[.agg (Ns Y1),.agg (Ns X1)] (.agg (Ns M1))))
  (H2:Hid (Rv 140 #[.agg (Ns Y2),.agg (Ns X2)] (.agg (Ns M2))))
  (H3:Hid (Rv 84 #[.agg (Ns M1),.agg (Ns M2)] (.agg (Ns A))))
  (H4:Hid (Rv 80 #[.agg (Ns Y1),.agg (Ns X1)] (.agg (Ns P1))))
  (H5:Hid (Rv 80 #[.agg (Ns Y2),.agg (Ns X2)] (.agg (Ns P2))))
  (H6:Hid (Rv 84 #[.agg (Ns P1),.agg (Ns P2)] (.agg (Ns B))))
  (H7:Hid (Rv 84 #[.agg (Ns T1),.agg (Ns TW)] (.agg (Ns C1))))
  (H8:Hid (Rv 84 #[.agg (Ns C1),.agg (Ns T2)] (.agg (Ns C))))
  (H9:Hid (Rv 84 #[.agg (Ns Z1),.agg (Ns Z2)] (.agg (Ns D0))))
  (J1:Hid (Rv 80 #[.agg (Ns D0),.agg (Ns D0)] (.agg (Ns D))))
  (J2:Hid (Rv 140 #[.agg (Ns B),.agg (Ns A)] (.agg (Ns E))))
  (J3:Hid (Rv 140 #[.agg (Ns D),.agg (Ns C)] (.agg (Ns F))))
  (J4:Hid (Rv 80 #[.agg (Ns D),.agg (Ns C)] (.agg (Ns G))))
  (J5:Hid (Rv 80 #[.agg (Ns B),.agg (Ns A)] (.agg (Ns H))))
  (J6:Hid (Rv 84 #[.agg (Ns E),.agg (Ns F)] (.agg (Ns RX))))
  (J7:Hid (Rv 84 #[.agg (Ns G),.agg (Ns H)] (.agg (Ns RY))))
  (J8:Hid (Rv 84 #[.agg (Ns F),.agg (Ns G)] (.agg (Ns RZ))))
  (J9:Hid (Rv 84 #[.agg (Ns E),.agg (Ns H)] (.agg (Ns RT)))):
  Rw 82 #[.agg (Ns (Rp.qt X1 Y1 Z1 T1)),.agg (Ns (Rp.qt X2 Y2 Z2 T2)),.agg (Ns TW)] w (.agg (Ns (Rp.qt RX RY RZ RT))):=by
 have hz:=bC;have hz2:=Rp.xz;have sX1:=Nz hX1;have sY1:=Nz hY1;have sZ1:=Nz hZ1;have sT1:=Nz hT1;have sX2:=Nz hX2;have sY2:=Nz hY2;have sZ2:=Nz hZ2;have sT2:=Nz hT2;have sTW:=Nz hTW;have sA:=Nz hA;have sB:=Nz hB;have sC:=Nz hC;have sD0:=Nz hD0;have sD:=Nz hD;have sE:=Nz hE;have sF:=Nz hF;have sG:=Nz hG;have sH:=Nz hH;have sRX:=Nz hRX;have sRY:=Nz hRY;have sRZ:=Nz hRZ;have sRT:=Nz hRT;have HB:Hid (∀wx:World,(Instr.build 61 #[(0,.agg (Ns RX)),(1,.agg (Ns RY)),(2,.agg (Ns RZ)),(3,.agg (Ns RT))]).run Tryz.prog wx= .ok (.agg (Ns (Rp.qt RX RY RZ RT))) wx):=Rp.xi RX RY RZ RT hRX hRY hRZ hRT;have lRR:=Rp.uy hRX hRY hRZ hRT;generalize Rp.qt RX RY RZ RT=RR at HB lRR⊢;have sRR:=Nz lRR;have sZ:=Rp.wR;generalize Rp.Z64=ZO at hz2 sZ;have sZ':=Nz sZ;have sP:(Ns (Rp.qt X1 Y1 Z1 T1)).size=64:=by rw[aK,Rp.uy hX1 hY1 hZ1 hT1]
 have sQ:(Ns (Rp.qt X2 Y2 Z2 T2)).size=64:=by rw[aK,Rp.uy hX2 hY2 hZ2 hT2]
 have hX:WD w w.heap.size [(w.heap.size+1+1+1,Ns ZO,61),(w.heap.size+1+1,Ns TW,59),(w.heap.size+1,Ns (Rp.qt X2 Y2 Z2 T2),61),(w.heap.size,Ns (Rp.qt X1 Y1 Z1 T1),61)] ((((w.alloc (.cells (Ns (Rp.qt X1 Y1 Z1 T1)) 61)).alloc (.cells (Ns (Rp.qt X2 Y2 Z2 T2)) 61)).alloc (.cells (Ns TW) 59)).alloc (.cells (Ns ZO) 61)):=by
  have h1:=(WD.start (w:=w)).new (Ns (Rp.qt X1 Y1 Z1 T1)) 61;have h2:=h1.new (Ns (Rp.qt X2 Y2 Z2 T2)) 61;rw[Rp.uE]at h2;have h3:=h2.new (Ns TW) 59;rw[Rp.uE,Rp.uE]at h3;have h4:=h3.new (Ns ZO) 61;rw[Rp.uE,Rp.uE,Rp.uE]at h4;exact h4
 generalize hPa:Ns (Rp.qt X1 Y1 Z1 T1)=PA at sP⊢;replace hPa:Hid (Ns (Rp.qt X1 Y1 Z1 T1)=PA):=hPa;generalize hPb:Ns (Rp.qt X2 Y2 Z2 T2)=PB at sQ⊢;replace hPb:Hid (Ns (Rp.qt X2 Y2 Z2 T2)=PB):=hPb;rw[hPa.out,hPb.out]at hX;go_enter Tryz.func82,Tryz.ntmps82;go_wp2_with fail;rw[←hPa.out,←hPb.out]at hX⊢;clear sP sQ hPa hPb;generalize (((w.alloc (.cells (Ns (Rp.qt X1 Y1 Z1 T1)) 61)).alloc (.cells (Ns (Rp.qt X2 Y2 Z2 T2)) 61)).alloc (.cells (Ns TW) 59)).alloc (.cells (Ns ZO) 61)=w1 at hX⊢;refine ai (S:=WD w (w.heap.size) [(w.heap.size+1+1+1,Ns ZO,61),(w.heap.size+1+1,Ns TW,59),(w.heap.size+1,Ns (Rp.qt X2 Y2 Z2 T2),61),(w.heap.size,Ns (Rp.qt X1 Y1 Z1 T1),61)]) (ls:= [12]) (by kernel_rfl) ?_;have hX0:WD w (w.heap.size) [(w.heap.size+1+1+1,Ns ZO,61),(w.heap.size+1+1,Ns TW,59),(w.heap.size+1,Ns (Rp.qt X2 Y2 Z2 T2),61),(w.heap.size,Ns (Rp.qt X1 Y1 Z1 T1),61)] w1.drew:=hX.drew;clear hX;generalize World.drew w1=ad at hX0⊢;refine ac 0 15 hX0 ?_;refine aa 1 16 (v:= .agg (Ns Y1)) hX0 ?_ ?_
 ·exact fun wx BM=>Rp.uD 59 _ rfl (w.heap.size) 16 rfl (Ns Y1) _ (Rp.ptY (BM.get 3 rfl) hX1) Tryz.underlying59 rfl (by rw[sY1];exact Tryz.info16)
 refine ac 2 17 hX0 ?_;simp only[qQ];refine aa 3 18 (v:= .agg (Ns X1)) hX0 ?_ ?_
 ·exact fun wx BM=>Rp.uD 59 _ rfl (w.heap.size) 0 rfl (Ns X1) _ (Rp.ptX (BM.get 3 rfl)) Tryz.underlying59 rfl (by rw[sX1];exact Tryz.info16)
 refine ac 5 20 hX0 ?_;refine aa 6 21 (v:= .agg (Ns Y2)) hX0 ?_ ?_
 ·exact fun wx BM=>Rp.uD 59 _ rfl (w.heap.size+1) 16 rfl (Ns Y2) _ (Rp.ptY (BM.get 2 rfl) hX2) Tryz.underlying59 rfl (by rw[sY2];exact Tryz.info16)
 simp only[qQ];refine ac 7 22 hX0 ?_;refine aa 8 23 (v:= .agg (Ns X2)) hX0 ?_ ?_
 ·exact fun wx BM=>Rp.uD 59 _ rfl (w.heap.size+1) 0 rfl (Ns X2) _ (Rp.ptX (BM.get 2 rfl)) Tryz.underlying59 rfl (by rw[sX2];exact Tryz.info16)
 try simp only[qQ]
 change al _ _ _ _ _ _ 5 #[true,true,true,true,false,true,true,true,true,false,false,false,false] _ _;refine aq (R:=fun d u w'=>(d 4=true→u 19= .agg (Ns M1))∧(d 9=true→u 24= .agg (Ns M2))∧(d 10=true→u 25= .agg (Ns A))∧(d 11=true→Fresh w (w.heap.size) [(w.heap.size+1+1+1,Ns ZO,61),(w.heap.size+1+1,Ns TW,59),(w.heap.size+1,Ns (Rp.qt X2 Y2 Z2 T2),61),(w.heap.size,Ns (Rp.qt X1 Y1 Z1 T1),61)] (Ns Fd.zN) 59 (u 7) w')∧WD w (w.heap.size) [(w.heap.size+1+1+1,Ns ZO,61),(w.heap.size+1+1,Ns TW,59),(w.heap.size+1,Ns (Rp.qt X2 Y2 Z2 T2),61),(w.heap.size,Ns (Rp.qt X1 Y1 Z1 T1),61)] w') [19,24,25,7] [4,9,10,11] #[true,true,true,true,true,true,true,true,true,true,true,true,false] (by kernel_rfl) (by kernel_rfl) (by kernel_rfl) ⟨fun h=>Bool.noConfusion h,fun h=>Bool.noConfusion h,fun h=>Bool.noConfusion h,fun h=>Bool.noConfusion h,hX0⟩ ?stepsa ?fina;case stepsa=>
  refine StepsU.cons rfl ?sa4 (StepsU.cons rfl ?sa9 (StepsU.cons rfl ?sa10 (StepsU.cons rfl ?sa11 StepsU.nil)));case sa4=>
   rintro d u wx ⟨h4,h9,h10,h11,hX⟩ hd K hK;simp only[ae,qF,qQ];go_simp;go_wp2_with (go_at_call 140;refine gv H1 fun x0 k0=> ?_);refine hK.out (upV u 19 (.agg (Ns M1))) _ (hX.keep k0) ⟨fun _=>rfl,fun h=>h9 h,fun h=>h10 h,fun h=>(h11 h).keep k0,hX.keep k0⟩ _ ?_;simp only[ae,qF,qQ,upV,reduceIte,Nat.reduceEqDiff]
  case sa9=>
   rintro d u wx ⟨h4,h9,h10,h11,hX⟩ hd K hK;simp only[ae,qF,qQ];go_simp;go_wp2_with (go_at_call 140;refine gv H2 fun x0 k0=> ?_);refine hK.out (upV u 24 (.agg (Ns M2))) _ (hX.keep k0) ⟨fun h=>h4 h,fun _=>rfl,fun h=>h10 h,fun h=>(h11 h).keep k0,hX.keep k0⟩ _ ?_;simp only[ae,qF,qQ,upV,reduceIte,Nat.reduceEqDiff]
  case sa10=>
   rintro d u wx ⟨h4,h9,h10,h11,hX⟩ hd K hK;have e4:=h4 (hd 4 (by kernel_rfl));have e9:=h9 (hd 9 (by kernel_rfl));simp only[ae,qF,qQ,e4,e9];go_simp;go_wp2_with (go_at_call 84;refine gv H3 fun x0 k0=> ?_);refine hK.out (upV u 25 (.agg (Ns A))) _ (hX.keep k0) ⟨fun h=>h4 h,fun h=>h9 h,fun _=>rfl,fun h=>(h11 h).keep k0,hX.keep k0⟩ _ ?_;simp only[ae,qF,qQ,upV,reduceIte,Nat.reduceEqDiff,e4,e9]
  case sa11=>
   rintro d u wx ⟨h4,h9,h10,h11,hX⟩ hd K hK;simp only[ae,qF,qQ];go_simp;refine hK.out (upV u 7 (.pointer (some ⟨wx.heap.size,0,none⟩))) _ (hX.alloc _) ⟨fun h=>h4 h,fun h=>h9 h,fun h=>h10 h,fun _=>bg hX _ _,hX.alloc _⟩ _ ?_;simp only[ae,qF,qQ,upV,reduceIte,Nat.reduceEqDiff]
 case fina=>
  rintro n' d u ax ⟨h4,h9,h10,h11,hX⟩ hd;have e19:=h4 (hd 4 rfl);have e24:=h9 (hd 9 rfl);have e25:=h10 (hd 10 rfl);obtain⟨q7,e7,bq7,lq7,mq7⟩:=h11 (hd 11 rfl);simp only[ae,qF,qQ,e19,e24,e25,e7];clear hd h4 h9 h10 h11 e19 e24 e25 e7;change al _ _ _ _ _ _ (n'+1) _ _ _;replace hX:=hX.push bq7 mq7 (fun x hx=>Nat.ne_of_lt (lq7 x hx));clear bq7 lq7 mq7;refine am 12 fun K hK=> ?_
  have hst:=aL (l:=A) (hX.get 0 rfl) (by rw[hA];rfl);go_simp;refine hK.out _ _ ?_;clear hK K hst;replace hX:WD w (w.heap.size) [(q7,Ns A,59),(w.heap.size+1+1+1,Ns ZO,61),(w.heap.size+1+1,Ns TW,59),(w.heap.size+1,Ns (Rp.qt X2 Y2 Z2 T2),61),(w.heap.size,Ns (Rp.qt X1 Y1 Z1 T1),61)] (ax.setRow (q7) (Ns A)):=hX.over 0 rfl (Ns A);generalize ax.setRow (q7) (Ns A)=ay0 at hX⊢;refine ak ?_;go_wp2_with fail;refine ai (S:=WD w (w.heap.size) [(q7,Ns A,59),(w.heap.size+1+1+1,Ns ZO,61),(w.heap.size+1+1,Ns TW,59),(w.heap.size+1,Ns (Rp.qt X2 Y2 Z2 T2),61),(w.heap.size,Ns (Rp.qt X1 Y1 Z1 T1),61)]) (ls:= [12]) (by kernel_rfl) ?_;have hX0:WD w (w.heap.size) [(q7,Ns A,59),(w.heap.size+1+1+1,Ns ZO,61),(w.heap.size+1+1,Ns TW,59),(w.heap.size+1,Ns (Rp.qt X2 Y2 Z2 T2),61),(w.heap.size,Ns (Rp.qt X1 Y1 Z1 T1),61)] ay0.drew:=hX.drew;clear hX;generalize World.drew ay0=bd at hX0⊢;refine ac 0 26 hX0 ?_;refine aa 1 27 (v:= .agg (Ns Y1)) hX0 ?_ ?_
  ·exact fun wx BM=>Rp.uD 59 _ rfl (w.heap.size) 16 rfl (Ns Y1) _ (Rp.ptY (BM.get 4 rfl) hX1) Tryz.underlying59 rfl (by rw[sY1];exact Tryz.info16)
  refine ac 2 28 hX0 ?_;simp only[qQ];refine aa 3 29 (v:= .agg (Ns X1)) hX0 ?_ ?_
  ·exact fun wx BM=>Rp.uD 59 _ rfl (w.heap.size) 0 rfl (Ns X1) _ (Rp.ptX (BM.get 4 rfl)) Tryz.underlying59 rfl (by rw[sX1];exact Tryz.info16)
  refine ac 5 31 hX0 ?_;refine aa 6 32 (v:= .agg (Ns Y2)) hX0 ?_ ?_
  ·exact fun wx BM=>Rp.uD 59 _ rfl (w.heap.size+1) 16 rfl (Ns Y2) _ (Rp.ptY (BM.get 3 rfl) hX2) Tryz.underlying59 rfl (by rw[sY2];exact Tryz.info16)
  simp only[qQ];refine ac 7 33 hX0 ?_;refine aa 8 34 (v:= .agg (Ns X2)) hX0 ?_ ?_
  ·exact fun wx BM=>Rp.uD 59 _ rfl (w.heap.size+1) 0 rfl (Ns X2) _ (Rp.ptX (BM.get 3 rfl)) Tryz.underlying59 rfl (by rw[sX2];exact Tryz.info16)
  try simp only[qQ]
  change al _ _ _ _ _ _ 5 #[true,true,true,true,false,true,true,true,true,false,false,false,false] _ _;refine aq (R:=fun d u w'=>(d 4=true→u 30= .agg (Ns P1))∧(d 9=true→u 35= .agg (Ns P2))∧(d 10=true→u 36= .agg (Ns B))∧(d 11=true→Fresh w (w.heap.size) [(q7,Ns A,59),(w.heap.size+1+1+1,Ns ZO,61),(w.heap.size+1+1,Ns TW,59),(w.heap.size+1,Ns (Rp.qt X2 Y2 Z2 T2),61),(w.heap.size,Ns (Rp.qt X1 Y1 Z1 T1),61)] (Ns Fd.zN) 59 (u 8) w')∧WD w (w.heap.size) [(q7,Ns A,59),(w.heap.size+1+1+1,Ns ZO,61),(w.heap.size+1+1,Ns TW,59),(w.heap.size+1,Ns (Rp.qt X2 Y2 Z2 T2),61),(w.heap.size,Ns (Rp.qt X1 Y1 Z1 T1),61)] w') [30,35,36,8] [4,9,10,11] #[true,true,true,true,true,true,true,true,true,true,true,true,false] (by kernel_rfl) (by kernel_rfl) (by kernel_rfl) ⟨fun h=>Bool.noConfusion h,fun h=>Bool.noConfusion h,fun h=>Bool.noConfusion h,fun h=>Bool.noConfusion h,hX0⟩ ?stepsb ?finb;case stepsb=>
   refine StepsU.cons rfl ?sb4 (StepsU.cons rfl ?sb9 (StepsU.cons rfl ?sb10 (StepsU.cons rfl ?sb11 StepsU.nil)));case sb4=>
    rintro d u wx ⟨h4,h9,h10,h11,hX⟩ hd K hK;simp only[ae,qF,qQ];go_simp;go_wp2_with (go_at_call 80;refine gv H4 fun x0 k0=> ?_);refine hK.out (upV u 30 (.agg (Ns P1))) _ (hX.keep k0) ⟨fun _=>rfl,fun h=>h9 h,fun h=>h10 h,fun h=>(h11 h).keep k0,hX.keep k0⟩ _ ?_;simp only[ae,qF,qQ,upV,reduceIte,Nat.reduceEqDiff]
   case sb9=>
    rintro d u wx ⟨h4,h9,h10,h11,hX⟩ hd K hK;simp only[ae,qF,qQ];go_simp;go_wp2_with (go_at_call 80;refine gv H5 fun x0 k0=> ?_);refine hK.out (upV u 35 (.agg (Ns P2))) _ (hX.keep k0) ⟨fun h=>h4 h,fun _=>rfl,fun h=>h10 h,fun h=>(h11 h).keep k0,hX.keep k0⟩ _ ?_;simp only[ae,qF,qQ,upV,reduceIte,Nat.reduceEqDiff]
   case sb10=>
    rintro d u wx ⟨h4,h9,h10,h11,hX⟩ hd K hK;have e4:=h4 (hd 4 (by kernel_rfl));have e9:=h9 (hd 9 (by kernel_rfl));simp only[ae,qF,qQ,e4,e9];go_simp;go_wp2_with (go_at_call 84;refine gv H6 fun x0 k0=> ?_);refine hK.out (upV u 36 (.agg (Ns B))) _ (hX.keep k0) ⟨fun h=>h4 h,fun h=>h9 h,fun _=>rfl,fun h=>(h11 h).keep k0,hX.keep k0⟩ _ ?_;simp only[ae,qF,qQ,upV,reduceIte,Nat.reduceEqDiff,e4,e9]
   case sb11=>
    rintro d u wx ⟨h4,h9,h10,h11,hX⟩ hd K hK;simp only[ae,qF,qQ];go_simp;refine hK.out (upV u 8 (.pointer (some ⟨wx.heap.size,0,none⟩))) _ (hX.alloc _) ⟨fun h=>h4 h,fun h=>h9 h,fun h=>h10 h,fun _=>bg hX _ _,hX.alloc _⟩ _ ?_;simp only[ae,qF,qQ,upV,reduceIte,Nat.reduceEqDiff]
  case finb=>
   rintro n' d u bx ⟨h4,h9,h10,h11,hX⟩ hd;have e30:=h4 (hd 4 rfl);have e35:=h9 (hd 9 rfl);have e36:=h10 (hd 10 rfl);obtain⟨q8,e8,bq8,lq8,mq8⟩:=h11 (hd 11 rfl);simp only[ae,qF,qQ,e30,e35,e36,e8];clear hd h4 h9 h10 h11 e30 e35 e36 e8;change al _ _ _ _ _ _ (n'+1) _ _ _;replace hX:=hX.push bq8 mq8 (fun x hx=>Nat.ne_of_lt (lq8 x hx));clear bq8 lq8 mq8;refine am 12 fun K hK=> ?_
   have hst:=aL (l:=B) (hX.get 0 rfl) (by rw[hB];rfl);go_simp;refine hK.out _ _ ?_;clear hK K hst;replace hX:WD w (w.heap.size) [(q8,Ns B,59),(q7,Ns A,59),(w.heap.size+1+1+1,Ns ZO,61),(w.heap.size+1+1,Ns TW,59),(w.heap.size+1,Ns (Rp.qt X2 Y2 Z2 T2),61),(w.heap.size,Ns (Rp.qt X1 Y1 Z1 T1),61)] (bx.setRow (q8) (Ns B)):=hX.over 0 rfl (Ns B);generalize bx.setRow (q8) (Ns B)=by0 at hX⊢;refine ak ?_;go_wp2_with fail;refine ai (S:=WD w (w.heap.size) [(q8,Ns B,59),(q7,Ns A,59),(w.heap.size+1+1+1,Ns ZO,61),(w.heap.size+1+1,Ns TW,59),(w.heap.size+1,Ns (Rp.qt X2 Y2 Z2 T2),61),(w.heap.size,Ns (Rp.qt X1 Y1 Z1 T1),61)]) (ls:= [8]) (by kernel_rfl) ?_;have hX0:WD w (w.heap.size) [(q8,Ns B,59),(q7,Ns A,59),(w.heap.size+1+1+1,Ns ZO,61),(w.heap.size+1+1,Ns TW,59),(w.heap.size+1,Ns (Rp.qt X2 Y2 Z2 T2),61),(w.heap.size,Ns (Rp.qt X1 Y1 Z1 T1),61)] by0.drew:=hX.drew;clear hX;generalize World.drew by0=cd at hX0⊢;refine ac 0 37 hX0 ?_;refine aa 1 38 (v:= .agg (Ns T1)) hX0 ?_ ?_
   ·exact fun wx BM=>Rp.uD 59 _ rfl (w.heap.size) 48 rfl (Ns T1) _ (Rp.ptT (BM.get 5 rfl) hX1 hY1 hZ1) Tryz.underlying59 rfl (by rw[sT1];exact Tryz.info16)
   refine af 2 39 t59 (fun _ h=>h.get 3 rfl) sTW hX0 ?_;simp only[qQ];refine ac 4 41 hX0 ?_;refine aa 5 42 (v:= .agg (Ns T2)) hX0 ?_ ?_
   ·exact fun wx BM=>Rp.uD 59 _ rfl (w.heap.size+1) 48 rfl (Ns T2) _ (Rp.ptT (BM.get 4 rfl) hX2 hY2 hZ2) Tryz.underlying59 rfl (by rw[sT2];exact Tryz.info16)
   try simp only[qQ]
   change al _ _ _ _ _ _ 4 #[true,true,true,false,true,true,false,false,false] _ _;refine aq (R:=fun d u w'=>(d 3=true→u 40= .agg (Ns C1))∧(d 6=true→u 43= .agg (Ns C))∧(d 7=true→Fresh w (w.heap.size) [(q8,Ns B,59),(q7,Ns A,59),(w.heap.size+1+1+1,Ns ZO,61),(w.heap.size+1+1,Ns TW,59),(w.heap.size+1,Ns (Rp.qt X2 Y2 Z2 T2),61),(w.heap.size,Ns (Rp.qt X1 Y1 Z1 T1),61)] (Ns Fd.zN) 59 (u 9) w')∧WD w (w.heap.size) [(q8,Ns B,59),(q7,Ns A,59),(w.heap.size+1+1+1,Ns ZO,61),(w.heap.size+1+1,Ns TW,59),(w.heap.size+1,Ns (Rp.qt X2 Y2 Z2 T2),61),(w.heap.size,Ns (Rp.qt X1 Y1 Z1 T1),61)] w') [40,43,9] [3,6,7] #[true,true,true,true,true,true,true,true,false] (by kernel_rfl) (by kernel_rfl) (by kernel_rfl) ⟨fun h=>Bool.noConfusion h,fun h=>Bool.noConfusion h,fun h=>Bool.noConfusion h,hX0⟩ ?stepsc ?finc;case stepsc=>
    refine StepsU.cons rfl ?sc3 (StepsU.cons rfl ?sc6 (StepsU.cons rfl ?sc7 StepsU.nil));case sc3=>
     rintro d u wx ⟨h3,h6,h7,hX⟩ hd K hK;simp only[ae,qF,qQ];go_simp;go_wp2_with (go_at_call 84;refine gv H7 fun x0 k0=> ?_);refine hK.out (upV u 40 (.agg (Ns C1))) _ (hX.keep k0) ⟨fun _=>rfl,fun h=>h6 h,fun h=>(h7 h).keep k0,hX.keep k0⟩ _ ?_;simp only[ae,qF,qQ,upV,reduceIte,Nat.reduceEqDiff]
    case sc6=>
     rintro d u wx ⟨h3,h6,h7,hX⟩ hd K hK;have e3:=h3 (hd 3 (by kernel_rfl));simp only[ae,qF,qQ,e3];go_simp;go_wp2_with (go_at_call 84;refine gv H8 fun x0 k0=> ?_);refine hK.out (upV u 43 (.agg (Ns C))) _ (hX.keep k0) ⟨fun h=>h3 h,fun _=>rfl,fun h=>(h7 h).keep k0,hX.keep k0⟩ _ ?_;simp only[ae,qF,qQ,upV,reduceIte,Nat.reduceEqDiff,e3]
    case sc7=>
     rintro d u wx ⟨h3,h6,h7,hX⟩ hd K hK;simp only[ae,qF,qQ];go_simp;refine hK.out (upV u 9 (.pointer (some ⟨wx.heap.size,0,none⟩))) _ (hX.alloc _) ⟨fun h=>h3 h,fun h=>h6 h,fun _=>bg hX _ _,hX.alloc _⟩ _ ?_;simp only[ae,qF,qQ,upV,reduceIte,Nat.reduceEqDiff]
   case finc=>
    rintro n' d u cx ⟨h3,h6,h7,hX⟩ hd;have e40:=h3 (hd 3 rfl);have e43:=h6 (hd 6 rfl);obtain⟨q9,e9,bq9,lq9,mq9⟩:=h7 (hd 7 rfl);simp only[ae,qF,qQ,e40,e43,e9];clear hd h3 h6 h7 e40 e43 e9;change al _ _ _ _ _ _ (n'+1) _ _ _;replace hX:=hX.push bq9 mq9 (fun x hx=>Nat.ne_of_lt (lq9 x hx));clear bq9 lq9 mq9;refine am 8 fun K hK=> ?_
    have hst:=aL (l:=C) (hX.get 0 rfl) (by rw[hC];rfl);go_simp;refine hK.out _ _ ?_;clear hK K hst;replace hX:WD w (w.heap.size) [(q9,Ns C,59),(q8,Ns B,59),(q7,Ns A,59),(w.heap.size+1+1+1,Ns ZO,61),(w.heap.size+1+1,Ns TW,59),(w.heap.size+1,Ns (Rp.qt X2 Y2 Z2 T2),61),(w.heap.size,Ns (Rp.qt X1 Y1 Z1 T1),61)] (cx.setRow (q9) (Ns C)):=hX.over 0 rfl (Ns C);generalize cx.setRow (q9) (Ns C)=cy0 at hX⊢;refine ak ?_;have c1:=Rp.ptZ (hX.get 6 rfl) hX1 hY1;have c2:=Rp.ptZ (hX.get 5 rfl) hX2 hY2;go_wp2_with (first
     |(refine Rp.ul rfl 59 _ rfl (w.heap.size) 32 rfl (Ns Z1) _ c1 Tryz.underlying59 rfl (by rw[sZ1];exact Tryz.info16) ?_)
     |(refine Rp.ul rfl 59 _ rfl (w.heap.size+1) 32 rfl (Ns Z2) _ c2 Tryz.underlying59 rfl (by rw[sZ2];exact Tryz.info16) ?_))
    clear c1 c2;refine gv H9 fun x3 k3=> ?_
    replace hX:=hX.keep k3;clear k3;have hN:=hX.new (Ns Fd.zN) 59;have g4:=hN.gt 0 rfl;replace hX:WD w (w.heap.size) [(x3.heap.size,Ns D0,59),(q9,Ns C,59),(q8,Ns B,59),(q7,Ns A,59),(w.heap.size+1+1+1,Ns ZO,61),(w.heap.size+1+1,Ns TW,59),(w.heap.size+1,Ns (Rp.qt X2 Y2 Z2 T2),61),(w.heap.size,Ns (Rp.qt X1 Y1 Z1 T1),61)] ((x3.alloc (.cells (Ns Fd.zN) 59)).setRow x3.heap.size (Ns D0)):=hN.over 0 rfl (Ns D0);have g5:=hX.gt 0 rfl;go_wp2_with (first
     |(refine stN rfl rfl x3.heap.size rfl rfl g4 sD0 rfl ?_)
     |(refine ldN rfl rfl (x3.heap.size) rfl g5 sD0 ?_))
    clear hN g4 g5;generalize (x3.alloc (.cells (Ns Fd.zN) 59)).setRow x3.heap.size (Ns D0)=v6 at hX⊢;generalize x3.heap.size=q10 at hX⊢;refine gv J1 fun x7 k7=> ?_
    replace hX:=hX.keep k7;clear k7;have g8:=hX.gt 0 rfl;replace hX:WD w (w.heap.size) [(q10,Ns D,59),(q9,Ns C,59),(q8,Ns B,59),(q7,Ns A,59),(w.heap.size+1+1+1,Ns ZO,61),(w.heap.size+1+1,Ns TW,59),(w.heap.size+1,Ns (Rp.qt X2 Y2 Z2 T2),61),(w.heap.size,Ns (Rp.qt X1 Y1 Z1 T1),61)] (x7.setRow (q10) (Ns D)):=hX.over 0 rfl (Ns D);have g9:=hX.gt 2 rfl;have g10:=hX.gt 3 rfl;go_wp2_with (first
     |(refine stN rfl rfl (q10) rfl rfl g8 sD sD0 ?_)
     |(refine ldN rfl rfl (q8) rfl g9 sB ?_)
     |(refine ldN rfl rfl (q7) rfl g10 sA ?_))
    clear g8 g9 g10;generalize x7.setRow (q10) (Ns D)=v11 at hX⊢;refine gv J2 fun x12 k12=> ?_
    replace hX:=hX.keep k12;clear k12;have hN:=hX.new (Ns Fd.zN) 59;have g13:=hN.gt 0 rfl;replace hX:WD w (w.heap.size) [(x12.heap.size,Ns E,59),(q10,Ns D,59),(q9,Ns C,59),(q8,Ns B,59),(q7,Ns A,59),(w.heap.size+1+1+1,Ns ZO,61),(w.heap.size+1+1,Ns TW,59),(w.heap.size+1,Ns (Rp.qt X2 Y2 Z2 T2),61),(w.heap.size,Ns (Rp.qt X1 Y1 Z1 T1),61)] ((x12.alloc (.cells (Ns Fd.zN) 59)).setRow x12.heap.size (Ns E)):=hN.over 0 rfl (Ns E);have g14:=hX.gt 1 rfl;have g15:=hX.gt 2 rfl;go_wp2_with (first
     |(refine stN rfl rfl x12.heap.size rfl rfl g13 sE rfl ?_)
     |(refine ldN rfl rfl (q10) rfl g14 sD ?_)
     |(refine ldN rfl rfl (q9) rfl g15 sC ?_))
    clear hN g13 g14 g15;generalize (x12.alloc (.cells (Ns Fd.zN) 59)).setRow x12.heap.size (Ns E)=v16 at hX⊢;generalize x12.heap.size=q11 at hX⊢;refine gv J3 fun x17 k17=> ?_
    replace hX:=hX.keep k17;clear k17;have hN:=hX.new (Ns Fd.zN) 59;have g18:=hN.gt 0 rfl;replace hX:WD w (w.heap.size) [(x17.heap.size,Ns F,59),(q11,Ns E,59),(q10,Ns D,59),(q9,Ns C,59),(q8,Ns B,59),(q7,Ns A,59),(w.heap.size+1+1+1,Ns ZO,61),(w.heap.size+1+1,Ns TW,59),(w.heap.size+1,Ns (Rp.qt X2 Y2 Z2 T2),61),(w.heap.size,Ns (Rp.qt X1 Y1 Z1 T1),61)] ((x17.alloc (.cells (Ns Fd.zN) 59)).setRow x17.heap.size (Ns F)):=hN.over 0 rfl (Ns F);have g19:=hX.gt 2 rfl;have g20:=hX.gt 3 rfl;go_wp2_with (first
     |(refine stN rfl rfl x17.heap.size rfl rfl g18 sF rfl ?_)
     |(refine ldN rfl rfl (q10) rfl g19 sD ?_)
     |(refine ldN rfl rfl (q9) rfl g20 sC ?_))
    clear hN g18 g19 g20;generalize (x17.alloc (.cells (Ns Fd.zN) 59)).setRow x17.heap.size (Ns F)=v21 at hX⊢;generalize x17.heap.size=q12 at hX⊢;refine gv J4 fun x22 k22=> ?_
    replace hX:=hX.keep k22;clear k22;have hN:=hX.new (Ns Fd.zN) 59;have g23:=hN.gt 0 rfl;replace hX:WD w (w.heap.size) [(x22.heap.size,Ns G,59),(q12,Ns F,59),(q11,Ns E,59),(q10,Ns D,59),(q9,Ns C,59),(q8,Ns B,59),(q7,Ns A,59),(w.heap.size+1+1+1,Ns ZO,61),(w.heap.size+1+1,Ns TW,59),(w.heap.size+1,Ns (Rp.qt X2 Y2 Z2 T2),61),(w.heap.size,Ns (Rp.qt X1 Y1 Z1 T1),61)] ((x22.alloc (.cells (Ns Fd.zN) 59)).setRow x22.heap.size (Ns G)):=hN.over 0 rfl (Ns G);have g24:=hX.gt 5 rfl;have g25:=hX.gt 6 rfl;go_wp2_with (first
     |(refine stN rfl rfl x22.heap.size rfl rfl g23 sG rfl ?_)
     |(refine ldN rfl rfl (q8) rfl g24 sB ?_)
     |(refine ldN rfl rfl (q7) rfl g25 sA ?_))
    clear hN g23 g24 g25;generalize (x22.alloc (.cells (Ns Fd.zN) 59)).setRow x22.heap.size (Ns G)=v26 at hX⊢;generalize x22.heap.size=q13 at hX⊢;refine gv J5 fun x27 k27=> ?_
    replace hX:=hX.keep k27;clear k27;have hN:=hX.new (Ns Fd.zN) 59;have g28:=hN.gt 0 rfl;replace hX:WD w (w.heap.size) [(x27.heap.size,Ns H,59),(q13,Ns G,59),(q12,Ns F,59),(q11,Ns E,59),(q10,Ns D,59),(q9,Ns C,59),(q8,Ns B,59),(q7,Ns A,59),(w.heap.size+1+1+1,Ns ZO,61),(w.heap.size+1+1,Ns TW,59),(w.heap.size+1,Ns (Rp.qt X2 Y2 Z2 T2),61),(w.heap.size,Ns (Rp.qt X1 Y1 Z1 T1),61)] ((x27.alloc (.cells (Ns Fd.zN) 59)).setRow x27.heap.size (Ns H)):=hN.over 0 rfl (Ns H);go_wp2_with (first
     |(refine stN rfl rfl x27.heap.size rfl rfl g28 sH rfl ?_))
    clear hN g28;generalize (x27.alloc (.cells (Ns Fd.zN) 59)).setRow x27.heap.size (Ns H)=v29 at hX⊢;generalize x27.heap.size=q14 at hX⊢;replace hX:WD w (w.heap.size) [(q14,Ns H,59),(q13,Ns G,59),(q12,Ns F,59),(q11,Ns E,59),(w.heap.size+1+1+1,Ns ZO,61)] v29:=hX.sub (by simp);refine ai (S:=WD w (w.heap.size) [(q14,Ns H,59),(q13,Ns G,59),(q12,Ns F,59),(q11,Ns E,59),(w.heap.size+1+1+1,Ns ZO,61)]) (ls:= [13]) (by kernel_rfl) ?_;have hX0:WD w (w.heap.size) [(q14,Ns H,59),(q13,Ns G,59),(q12,Ns F,59),(q11,Ns E,59),(w.heap.size+1+1+1,Ns ZO,61)] v29.drew:=hX.drew;clear hX;generalize World.drew v29=dd at hX0⊢;refine af 0 64 t59 (fun _ h=>h.get 3 rfl) sE hX0 ?_;refine af 1 65 t59 (fun _ h=>h.get 2 rfl) sF hX0 ?_;refine af 3 67 t59 (fun _ h=>h.get 1 rfl) sG hX0 ?_;simp only[qQ];refine af 4 68 t59 (fun _ h=>h.get 0 rfl) sH hX0 ?_;refine af 6 70 t59 (fun _ h=>h.get 2 rfl) sF hX0 ?_;refine af 7 71 t59 (fun _ h=>h.get 1 rfl) sG hX0 ?_;simp only[qQ];refine af 9 73 t59 (fun _ h=>h.get 3 rfl) sE hX0 ?_;refine af 10 74 t59 (fun _ h=>h.get 0 rfl) sH hX0 ?_;try simp only[qQ]
    change al _ _ _ _ _ _ 6 #[true,true,false,true,true,false,true,true,false,true,true,false,false,false] _ _;refine aq (R:=fun d u w'=>(d 2=true→u 66= .agg (Ns RX))∧(d 5=true→u 69= .agg (Ns RY))∧(d 8=true→u 72= .agg (Ns RZ))∧(d 11=true→u 75= .agg (Ns RT))∧(d 12=true→u 76= .agg (Ns RR))∧WD w (w.heap.size) [(q14,Ns H,59),(q13,Ns G,59),(q12,Ns F,59),(q11,Ns E,59),(w.heap.size+1+1+1,Ns ZO,61)] w') [66,69,72,75,76] [2,5,8,11,12] #[true,true,true,true,true,true,true,true,true,true,true,true,true,false] (by kernel_rfl) (by kernel_rfl) (by kernel_rfl) ⟨fun h=>Bool.noConfusion h,fun h=>Bool.noConfusion h,fun h=>Bool.noConfusion h,fun h=>Bool.noConfusion h,fun h=>Bool.noConfusion h,hX0⟩ ?stepsd ?find;case stepsd=>
     refine StepsU.cons rfl ?sd2 (StepsU.cons rfl ?sd5 (StepsU.cons rfl ?sd8 (StepsU.cons rfl ?sd11 (StepsU.cons rfl ?sd12 StepsU.nil))));case sd2=>
      rintro d u wx ⟨h2,h5,h8,h11,h12,hX⟩ hd K hK;simp only[ae,qF,qQ];go_simp;go_wp2_with (go_at_call 84;refine gv J6 fun x0 k0=> ?_);refine hK.out (upV u 66 (.agg (Ns RX))) _ (hX.keep k0) ⟨fun _=>rfl,fun h=>h5 h,fun h=>h8 h,fun h=>h11 h,fun h=>h12 h,hX.keep k0⟩ _ ?_;simp only[ae,qF,qQ,upV,reduceIte,Nat.reduceEqDiff]
     case sd5=>
      rintro d u wx ⟨h2,h5,h8,h11,h12,hX⟩ hd K hK;simp only[ae,qF,qQ];go_simp;go_wp2_with (go_at_call 84;refine gv J7 fun x0 k0=> ?_);refine hK.out (upV u 69 (.agg (Ns RY))) _ (hX.keep k0) ⟨fun h=>h2 h,fun _=>rfl,fun h=>h8 h,fun h=>h11 h,fun h=>h12 h,hX.keep k0⟩ _ ?_;simp only[ae,qF,qQ,upV,reduceIte,Nat.reduceEqDiff]
     case sd8=>
      rintro d u wx ⟨h2,h5,h8,h11,h12,hX⟩ hd K hK;simp only[ae,qF,qQ];go_simp;go_wp2_with (go_at_call 84;refine gv J8 fun x0 k0=> ?_);refine hK.out (upV u 72 (.agg (Ns RZ))) _ (hX.keep k0) ⟨fun h=>h2 h,fun h=>h5 h,fun _=>rfl,fun h=>h11 h,fun h=>h12 h,hX.keep k0⟩ _ ?_;simp only[ae,qF,qQ,upV,reduceIte,Nat.reduceEqDiff]
     case sd11=>
      rintro d u wx ⟨h2,h5,h8,h11,h12,hX⟩ hd K hK;simp only[ae,qF,qQ];go_simp;go_wp2_with (go_at_call 84;refine gv J9 fun x0 k0=> ?_);refine hK.out (upV u 75 (.agg (Ns RT))) _ (hX.keep k0) ⟨fun h=>h2 h,fun h=>h5 h,fun h=>h8 h,fun _=>rfl,fun h=>h12 h,hX.keep k0⟩ _ ?_;simp only[ae,qF,qQ,upV,reduceIte,Nat.reduceEqDiff]
     case sd12=>
      rintro d u wx ⟨h2,h5,h8,h11,h12,hX⟩ hd K hK;have e2:=h2 (hd 2 (by kernel_rfl));have e5:=h5 (hd 5 (by kernel_rfl));have e8:=h8 (hd 8 (by kernel_rfl));have e11:=h11 (hd 11 (by kernel_rfl));simp only[ae,qF,qQ,e2,e5,e8,e11];rw[if_pos (by rfl)];unfold Oper.wp;rw[Rp.ub 61 _ rfl [(0,.agg (Ns RX)),(1,.agg (Ns RY)),(2,.agg (Ns RZ)),(3,.agg (Ns RT))] rfl _ (HB.out wx)];refine hK.out (upV u 76 (.agg (Ns RR))) _ hX ⟨fun h=>h2 h,fun h=>h5 h,fun h=>h8 h,fun h=>h11 h,fun _=>rfl,hX⟩ _ ?_;simp only[ae,qF,qQ,upV,reduceIte,Nat.reduceEqDiff,e2,e5,e8,e11];rfl
    case find=>
     rintro n' d u dx ⟨h2,h5,h8,h11,h12,hX⟩ hd;have e66:=h2 (hd 2 rfl);have e69:=h5 (hd 5 rfl);have e72:=h8 (hd 8 rfl);have e75:=h11 (hd 11 rfl);have e76:=h12 (hd 12 rfl);simp only[ae,qF,qQ,e66,e69,e72,e75,e76];clear hd h2 h5 h8 h11 h12 e66 e69 e72 e75 e76;change al _ _ _ _ _ _ (n'+1) _ _ _;refine am 13 fun K hK=> ?_
     have hst:=aL (l:=RR) (hX.get 4 rfl) (by rw[sZ',lRR]);go_simp;refine hK.out _ _ ?_;clear hK K hst;replace hX:WD w (w.heap.size) [(q14,Ns H,59),(q13,Ns G,59),(q12,Ns F,59),(q11,Ns E,59),(w.heap.size+1+1+1,Ns RR,61)] (dx.setRow (w.heap.size+1+1+1) (Ns RR)):=hX.over 4 rfl (Ns RR);generalize dx.setRow (w.heap.size+1+1+1) (Ns RR)=dy0 at hX⊢;refine ak ?_;go_wp2;refine bodyPost_ret (v:= .agg (Ns RR)) ?_ rfl ⟨rfl,hX.below⟩;exact rr t61 rfl rfl (hX.get 4 rfl) sRR
theorem mI(p q:Rp.Pn)(tw:List Int)(hp:Rp.Fine p)(hq:Rp.Fine q)(ht:Fd.Good tw)(w:World):
  Rw 82 #[.agg (Ns (Rp.row p)),.agg (Ns (Rp.row q)),.agg (Ns tw)] w (.agg (Ns (Rp.row (Rp.sum p q tw)))):=by
 obtain⟨gA,gB,gC,gD,gE,gF,gG,gH⟩:=Rp.goods hp hq ht;obtain⟨rx,ry,rz,rt⟩:=Rp.xU hp hq ht;have d0:=Fd.tN _ _ hp.2.2.1 hq.2.2.1;rw[Rp.row_qt p,Rp.row_qt q,Rp.row_qt (Rp.sum p q tw)];rw[Rp.sum_x]at rx⊢;rw[Rp.sum_y]at ry⊢;rw[Rp.sum_z]at rz⊢;rw[Rp.sum_t]at rt⊢;have m1:=Fd.tO _ _ hp.2.1 hp.1;have m2:=Fd.tO _ _ hq.2.1 hq.1;have p1:=Fd.tS _ _ hp.2.1 hp.1;have p2:=Fd.tS _ _ hq.2.1 hq.1;have c1:=Fd.tN _ _ hp.2.2.2 ht;exact sk p.x p.y p.z p.t q.x q.y q.z q.t tw (Fd.minus p.y p.x) (Fd.minus q.y q.x) (Rp.sA p q) (Fd.plus p.y p.x) (Fd.plus q.y q.x) (Rp.sB p q) (Fd.by_ p.t tw) (Rp.sC p q tw) (Fd.by_ p.z q.z) (Rp.sD p q) (Rp.sE p q) (Rp.sF p q tw) (Rp.sG p q tw) (Rp.sH p q) _ _ _ _ w
  hp.1.1 hp.2.1.1 hp.2.2.1.1 hp.2.2.2.1 hq.1.1 hq.2.1.1 hq.2.2.1.1 hq.2.2.2.1 ht.1 gA.1 gB.1 gC.1 d0.1 gD.1 gE.1 gF.1 gG.1 gH.1 rx.1 ry.1 rz.1 rt.1
  (fun wx=>aR _ _ hp.2.1 hp.1 wx) (fun wx=>aR _ _ hq.2.1 hq.1 wx) (fun wx=>aI _ _ m1 m2 wx)
  (fun wx=>bE _ _ hp.2.1 hp.1 wx) (fun wx=>bE _ _ hq.2.1 hq.1 wx) (fun wx=>aI _ _ p1 p2 wx)
  (fun wx=>aI _ _ hp.2.2.2 ht wx) (fun wx=>aI _ _ c1 hq.2.2.2 wx) (fun wx=>aI _ _ hp.2.2.1 hq.2.2.1 wx) (fun wx=>bE _ _ d0 d0 wx)
  (fun wx=>aR _ _ gB gA wx) (fun wx=>aR _ _ gD gC wx) (fun wx=>bE _ _ gD gC wx) (fun wx=>bE _ _ gB gA wx)
  (fun wx=>aI _ _ gE gF wx) (fun wx=>aI _ _ gG gH wx) (fun wx=>aI _ _ gF gG wx) (fun wx=>aI _ _ gE gH wx)
end Go.Proofs.YtclpbaokadfhhaaGreatDoor
