import Derived.Test.YtclpbaokadfhhaaGreatDoorYc
import Derived.Test.YtclpbaokadfhhaaGreatDoorXl
set_option maxRecDepth 100000
set_option maxHeartbeats 8000000
namespace Go.Proofs.YtclpbaokadfhhaaGreatDoor
open Go.RowKit
theorem tA(b:UInt8):(b.toNat:Int)/128=((b>>>7).toNat:Int):=by
 rw[UInt8.toNat_shiftRight];show _=((b.toNat>>>((7:UInt8).toNat%8):Nat):Int)
 rw[show (7:UInt8).toNat%8=7 from rfl,Nat.shiftRight_eq_div_pow];omega
theorem fK{T:List UInt8}{s:ByteArray}:(⟨T.toArray⟩:ByteArray)=s↔T=s.data.toList:=by
 constructor
 ·intro h;rw[←h]
 ·intro h;rw[h]
theorem jm{X Y Z:List (BitVec 64)}(hX:X.length=5)(hY:Y.length=5)(hZ:Z.length=5):Cv.Ok ⟨X,Y,Z⟩:=⟨hX,hY,hZ⟩
theorem iG(X Y Z:List (BitVec 64))(w:World)(hX:X.length=5)(hY:Y.length=5)(hZ:Z.length=5):
  Rw 117 #[.agg (Ws (pt X Y Z))] w (.string ⟨(Cv.bytes ⟨X,Y,Z⟩).toArray⟩):=fV ⟨X,Y,Z⟩ w (jm hX hY hZ)
theorem nm(X Y Z:List (BitVec 64)):Cv.row ⟨X,Y,Z⟩=pt X Y Z:=rfl
theorem tM(s:ByteArray)(w:World)(hs:s.size=32):
  Rw 188 #[.string s] w (.tuple #[.agg (Ws (Cv.row (Cv.of s.data.toList).1)),.bool (Cv.of s.data.toList).2]):=by
 have lY:(Ff.of s.data.toList).length=5:=rfl;have HF:=fun wx=>sW s wx hs
 have hix:=eM s 31 (by omega);have hm:Cv.made s.data.toList=⟨Cv.turned (Ff.wD (Cv.zd (Ff.of s.data.toList))).1 (s.data.toList.getD 31 0>>>7),Ff.of s.data.toList,Ff.one5⟩:=by unfold Cv.made;with_reducible rfl
 have hO:Cv.of s.data.toList=if (Ff.wD (Cv.zd (Ff.of s.data.toList))).2=true then(if Cv.bytes (Cv.made s.data.toList)=s.data.toList then(Cv.made s.data.toList,true)else (Cv.AY,false))else (Cv.AY,false):=by unfold Cv.of;with_reducible rfl
 have hsh:=tA (s.data.toList.getD 31 0);generalize Cv.of s.data.toList=RES at hO⊢;generalize Cv.made s.data.toList=MD at hO hm;generalize Ff.of s.data.toList=Y at lY HF hm hO;generalize s.data.toList.getD 31 0>>>7=hb at hm hsh;generalize s.data.toList.getD 31 0=s31 at hix hsh;have hT:Cv.zd Y=Ff.times (Ff.minus (Ff.times Y Y) Ff.one5) (Ff.tX (Ff.plus (Ff.times Ff.factor (Ff.times Y Y)) Ff.one5)):=by unfold Cv.zd;with_reducible rfl
 have lX:(Cv.zd Y).length=5:=Cv.AD _;have l1:Ff.one5.length=5:=rfl;have lF:Ff.factor.length=5:=rfl;have H3:=mS;have H5:=kn;generalize Ff.one5=O1 at hT l1 H3 hm;generalize Ff.factor=FA at hT lF H5;have lYY:=Ff.times_length Y Y;have H2:=fun wx=>bF Y wx lY
 generalize Ff.times Y Y=YY at hT lYY H2;have lM:(Ff.minus YY O1).length=5:=by rw[Ff.uV,lYY]
 have H4:=fun wx=>cV YY O1 wx lYY l1
 generalize Ff.minus YY O1=M1 at hT lM H4;have lFY:=Ff.times_length FA YY;have H6:=fun wx=>aD FA YY wx lF lYY
 generalize Ff.times FA YY=FY at hT lFY H6;have lFP:(Ff.plus FY O1).length=5:=by rw[Ff.plus_length,lFY]
 have H7:=fun wx=>dv FY O1 wx lFY l1
 generalize Ff.plus FY O1=FP at hT lFP H7;have lIV:=Ff.wL FP;have H8:=fun wx=>fE FP wx lFP
 generalize Ff.tX FP=IV at hT lIV H8;have H9:=fun wx=>aD M1 IV wx lM lIV
 rw[←hT]at H9;clear hT;generalize Cv.zd Y=XX at lX H9 hm hO;have lR:=Ff.za XX;have hroot:=fun wx=>sK XX wx lX
 generalize (Ff.wD XX).1=RT at hroot hm lR;generalize (Ff.wD XX).2=B7 at hroot hO;have lN:=Ff.uU RT;have J2:=fun wx=>gh RT wx lR
 have J3:=fun wx=>je RT wx lR
 have CK:Ff.vg RT=hb→MD=⟨RT,Y,O1⟩:=fun h=>by rw[hm,Cv.turned,if_pos h]
 have CF: ¬Ff.vg RT=hb→MD=⟨Ff.negated RT,Y,O1⟩:=fun h=>by rw[hm,Cv.turned,if_neg h]
 clear hm;generalize Ff.vg RT=lb at J2 CK CF;generalize Ff.negated RT=NG at lN J3 CF;have hb1:=fun wx=>iG RT Y O1 wx lR lY l1
 have hb2:=fun wx=>iG NG Y O1 wx lN lY l1
 have hw1:lb=hb→Cv.row MD=pt RT Y O1:=fun h=>by rw[CK h,nm]
 have hw2: ¬lb=hb→Cv.row MD=pt NG Y O1:=fun h=>by rw[CF h,nm]
 generalize Cv.Pn.mk RT Y O1=p1 at hb1 CK;generalize Cv.Pn.mk NG Y O1=p2 at hb2 CF;have hy1:lb=hb→Cv.bytes MD=Cv.bytes p1:=fun h=>by rw[CK h]
 have hy2: ¬lb=hb→Cv.bytes MD=Cv.bytes p2:=fun h=>by rw[CF h]
 clear CK CF;generalize Cv.bytes p1=B1 at hb1 hy1;generalize Cv.bytes p2=B2 at hb2 hy2;have z15:Z15=Cv.row Cv.AY:=rfl;rw[hO];clear hO;refine tv s Y YY O1 M1 FA FY FP IV XX RT NG B7 lb hb s31 ⟨B1.toArray⟩ ⟨B2.toArray⟩ _ w hix hsh HF H2 H3 H4 H5 H6 H7 H8 H9 hroot J2 J3 hb1 hb2 lY lYY l1 lX lR lN ?_ ?_ ?_ ?_ ?_
 ·intro h;rw[h,if_neg (by decide),z15]
 ·intro h h1 h2;rw[h,if_pos rfl,hy1 h1,if_pos (fK.1 h2),hw1 h1]
 ·intro h h1 h2;rw[h,if_pos rfl,hy1 h1,if_neg (fun e=>h2 (fK.2 e)),z15]
 ·intro h h1 h2;rw[h,if_pos rfl,hy2 h1,if_pos (fK.1 h2),hw2 h1]
 ·intro h h1 h2;rw[h,if_pos rfl,hy2 h1,if_neg (fun e=>h2 (fK.2 e)),z15]
theorem eK(a b:ByteArray):(a++b).data.toList=a.data.toList++b.data.toList:=by rw[ByteArray.data_append,Array.toList_append]
theorem ip(x y:ByteArray)(h:x.size+y.size≤9223372036854775807):Op.stringOp .add x y=pure (.string (x++y)):=by
 unfold Op.stringOp;simp only[show¬((x.size+y.size:Nat):Int)>IntKind.i64.max by have:IntKind.i64.max=9223372036854775807:=(by decide);omega,if_false]
theorem fN(K:Nat→BitVec 64)(l:List UInt8):(Sha.digest K l).length=64:=Sha.tellTo_length _ _
theorem pQ(K:Nat→BitVec 64)(f i d:ByteArray)(w:World)(hf:f.size≤1000000)(hi:i.size≤1000000)(hd:d.size≤1000000)(hK:Tab K w):
  Rw 122 #[.string f,.string i,.string d] w (.agg (Ws (Sg.tie (Sha.digest K) f.data.toList i.data.toList d.data.toList))):=by
 have o1:=ip f i (by omega);have sz1:(f++i).size=f.size+i.size:=ByteArray.size_append;have o2:=ip (f++i) d (by omega);have sz2:(f++i++d).size=f.size+i.size+d.size:=by rw[ByteArray.size_append,sz1]
 have HE:Hid (Sg.tie (Sha.digest K) f.data.toList i.data.toList d.data.toList=Sc.of (Sha.digest K (f++i++d).data.toList)):=by
  show _=_
  rw[eK,eK];rfl
 generalize f++i=fi at o1 o2 sz1 sz2 HE;generalize fi++d=fid at o2 sz2 HE;have H1:Hid (∀wx:World,Tab K wx→Rw 113 #[.string fid] wx (.string ⟨(Sha.digest K fid.data.toList).toArray⟩)):=fun wx h=>gY K fid wx (by omega) h
 have ld:=fN K fid.data.toList;generalize Sha.digest K fid.data.toList=D at H1 HE ld;have H2:Hid (Rv 114 #[.string ⟨D.toArray⟩] (.agg (Ws (Sc.of D)))):=fun wx=>mH ⟨D.toArray⟩ wx (by show D.length≤_;omega)
 have lR:=Sc.vo D;generalize Sc.of D=R at H2 HE lR;generalize Sg.tie (Sha.digest K) f.data.toList i.data.toList d.data.toList=RR at HE⊢;have hr:RR=R:=HE.out;subst hr;clear HE;generalize (⟨D.toArray⟩:ByteArray)=ds at H1 H2;have hb:=Blk.new w (Ws [0,0,0,0]) 71;have BI:Below w.heap.size w (w.alloc (.cells (Ws [0,0,0,0]) 71)):=bR.alloc nR _;replace hK:Hid (Tab K w):=hK;go_enter Tryz.func122,Tryz.ntmps122;go_wp2_with fail;rw[SZ4];generalize w.alloc (.cells (Ws [0,0,0,0]) 71)=w1 at hb BI⊢;refine(H1.out _ (hK.out.below BI)).mono ?_;rintro e w2 ⟨rfl,k2⟩;replace hb:=hb.keep k2;replace BI:=BI.trans (k2.mono BI.size);clear k2;go_wp2_with fail;refine gv H2 fun w3 k3=> ?_
 replace hb:=hb.keep k3;replace BI:=BI.trans (k3.mono BI.size);have hst:=ao (l:=RR) hb (by rw[lR];rfl);have sR:=Wz lR;go_wp2;refine bodyPost_ret (v:= .agg (Ws RR)) ?_ rfl ⟨rfl,below_setRow BI (by omega) _⟩;exact rr t71 rfl rfl (hb.row _) sR
def sgr(S:List (BitVec 64))(r i:ByteArray):Array Value:= #[.int .u64 (U (S.getD 0 0)),.int .u64 (U (S.getD 1 0)),.int .u64 (U (S.getD 2 0)),.int .u64 (U (S.getD 3 0)),.string r,.string i]
theorem jC(S:List (BitVec 64))(r i:ByteArray):(sgr S r i).size=6:=rfl
theorem kT(S:List (BitVec 64))(r i:ByteArray):(sgr S r i).all (·.oneCell')=true:=by kernel_rfl
theorem m8{w:World}{b t:Nat}{S:List (BitVec 64)}{r i:ByteArray}(h:Blk w b (sgr S r i) t)(hS:S.length=4):w.rangeAt b 0 (Ws S).toList:=by
 obtain⟨x0,x1,x2,x3,rfl⟩:=Sc.four S hS;intro j v hv;rw[h.cell];have hj:j<4:=by have:=(List.getElem?_eq_some_iff.1 hv).1;simpa [Ws]using this
 match j,hj with
 |0,_=>exact hv
 |1,_=>exact hv
 |2,_=>exact hv
 |3,_=>exact hv
theorem Tryz.infoG6:(Tryz.prog.info? 73).map (·.size)=some 6:=by kernel_rfl
theorem se(S:List (BitVec 64))(r i:ByteArray)(hS:S.length=4)(w:World):(Instr.build 73 #[(0,.agg (Ws S)),(1,.string r),(2,.string i)]).run Tryz.prog w= .ok (.agg (sgr S r i)) w:=by
 obtain⟨x0,x1,x2,x3,rfl⟩:=Sc.four S hS;exact run_build w _ _ _ (by kernel_rfl)
theorem m9(S:List (BitVec 64))(r i:ByteArray)(w:World):(Instr.field 73 (.agg (sgr S r i)) 2).run Tryz.prog w= .ok (.string i) w:=by kernel_rfl
theorem mZ{w:World}{g t:Nat}{cs cs':Array Value}(hb:Blk w g cs t)(hl:cs.size=cs'.size)(h1:cs'.all (·.oneCell')=true):
  (storeCells ⟨g,0,none⟩ cs'.toList).run Tryz.prog w= .ok () (w.setRow g cs'):=by
 have:=run_storeCells_from (P:=Tryz.prog) g t cs'.toList 0 cs w hb (by simp[hl]) (fun v hv=>(Array.all_eq_true_iff_forall_mem.1 h1) v (by simpa using hv));rw[this];simp
theorem jP(s:ByteArray)(n:Nat):(s.extract 0 n).data.toList=s.data.toList.take n:=by
 rw[ByteArray.data_extract,Array.toList_extract];simp
theorem jQ(s:ByteArray)(n:Nat):(s.extract n s.size).data.toList=s.data.toList.drop n:=by
 rw[ByteArray.data_extract,Array.toList_extract];rw[List.extract_eq_take_drop,List.take_of_length_le];rw[List.length_drop];simp
theorem ki(K:Nat→BitVec 64)(BP:ByteArray)(w:World)(hs:BP.size=32)(hK:Tab K w):
  Rw 51 #[.string BP] w (.agg (sgr (Sg.secret (Sha.digest K) BP.data.toList) ⟨(Sg.rest (Sha.digest K) BP.data.toList).toArray⟩ ⟨(Sg.ui (Sha.digest K) BP.data.toList).toArray⟩)):=by
 have H1:Hid (∀wx:World,Tab K wx→Rw 113 #[.string BP] wx (.string ⟨(Sha.digest K BP.data.toList).toArray⟩)):=fun wx h=>gY K BP wx (by omega) h
 have ld:=fN K BP.data.toList;have HE:Hid (Sg.secret (Sha.digest K) BP.data.toList=Sc.of (aE ((Sha.digest K BP.data.toList).take 32))∧Sg.rest (Sha.digest K) BP.data.toList=(Sha.digest K BP.data.toList).drop 32∧Sg.ui (Sha.digest K) BP.data.toList=Cv.bytes (Cv.ut Cv.base (Sc.of (aE ((Sha.digest K BP.data.toList).take 32))))):=by
  refine⟨?_,?_,?_⟩
  ·unfold Sg.secret;with_reducible rfl
  ·unfold Sg.rest;with_reducible rfl
  ·unfold Sg.ui Sg.secret;with_reducible rfl
 generalize Sg.secret (Sha.digest K) BP.data.toList=RS at HE⊢;generalize Sg.rest (Sha.digest K) BP.data.toList=RR at HE⊢;generalize Sg.ui (Sha.digest K) BP.data.toList=RI at HE⊢;generalize Sha.digest K BP.data.toList=D at H1 HE ld;have hds:(⟨D.toArray⟩:ByteArray).size=64:=ld;have hdd:(⟨D.toArray⟩:ByteArray).data.toList=D:=rfl;generalize (⟨D.toArray⟩:ByteArray)=ds at H1 hds hdd;have e1:(ds.extract 0 32).data.toList=D.take 32:=by rw[jP,hdd]
 have z1:(ds.extract 0 32).size=32:=by simp;omega
 have e2:(ds.extract 32 64).data.toList=D.drop 32:=by rw[←hds,jQ,hdd]
 have HRR:=HE.out.2.1;obtain⟨dr,hx⟩: ∃dr,ds.extract 32 64=dr:=⟨_,rfl⟩
 have hdr:(⟨RR.toArray⟩:ByteArray)=dr:=by rw[HRR,←e2,←hx]
 have H2:Hid (Rv 108 #[.string (ds.extract 0 32)] (.string ⟨(aE (D.take 32)).toArray⟩)):=fun wx=>by
  have:=gk (ds.extract 0 32) wx z1;rw[e1]at this;exact this
 have lc:(aE (D.take 32)).length=32:=by rw[cS,List.length_take,ld];rfl
 generalize aE (D.take 32)=C at H2 HE lc;have H3:Hid (Rv 114 #[.string ⟨C.toArray⟩] (.agg (Ws (Sc.of C)))):=fun wx=>mH ⟨C.toArray⟩ wx (by show C.length≤_;omega)
 generalize (⟨C.toArray⟩:ByteArray)=cs at H2 H3;have lS:=Sc.vo C;generalize Sc.of C=S at H3 HE lS;have H4:Hid (Rv 115 #[] (.agg (Ws (Cv.row Cv.base)))):=ko;have H5:Hid (Rv 116 #[.agg (Ws (Cv.row Cv.base)),.agg (Ws S)] (.agg (Ws (Cv.row (Cv.ut Cv.base S))))):=fun wx=>fU Cv.base S wx ⟨rfl,rfl,rfl⟩ lS
 have H6:Hid (Rv 117 #[.agg (Ws (Cv.row (Cv.ut Cv.base S)))] (.string ⟨(Cv.bytes (Cv.ut Cv.base S)).toArray⟩)):=fun wx=>fV _ wx (Cv.xD _ _)
 have hS:RS=S:=HE.out.1;have hI:RI=Cv.bytes (Cv.ut Cv.base S):=HE.out.2.2;rw[←hI]at H6;subst hS;clear HE hI HRR;generalize Cv.row (Cv.ut Cv.base RS)=rT at H5 H6;generalize Cv.row Cv.base=rB at H4 H5;rw[hdr];generalize (⟨RI.toArray⟩:ByteArray)=ri at H6⊢;have HB:Hid (∀wx:World,(Instr.build 73 #[(0,.agg (Ws RS)),(1,.string dr),(2,.string ri)]).run Tryz.prog wx= .ok (.agg (sgr RS dr ri)) wx):=se RS dr ri lS;have sS:=Wz lS;have sG:=jC RS dr ri;have oG:=kT RS dr ri;generalize sgr RS dr ri=SG at HB sG oG⊢;have hW:WD w w.heap.size [(w.heap.size,#[.int .u64 0,.int .u64 0,.int .u64 0,.int .u64 0,.string ⟨#[]⟩,.string ⟨#[]⟩],73)] (w.alloc (.cells #[.int .u64 0,.int .u64 0,.int .u64 0,.int .u64 0,.string ⟨#[]⟩,.string ⟨#[]⟩] 73)):=(WD.start (w:=w)).new #[.int .u64 0,.int .u64 0,.int .u64 0,.int .u64 0,.string ⟨#[]⟩,.string ⟨#[]⟩] 73;replace hK:Hid (Tab K w):=hK;have hK9:=hK;clear e1 e2 hdr hdd;go_enter Tryz.func51,Tryz.ntmps51;go_wp2_with fail;generalize w.alloc (.cells #[.int .u64 0,.int .u64 0,.int .u64 0,.int .u64 0,.string ⟨#[]⟩,.string ⟨#[]⟩] 73)=w1 at hW⊢;refine(H1.out _ (hK.out.below hW.below)).mono ?_;rintro e w2 ⟨rfl,k2⟩;replace hW:=hW.keep k2;clear k2;go_wp2_with fail;refine gv H2 fun w3 k3=> ?_
 replace hW:=hW.keep k3;clear k3;go_wp2_with fail;refine gv H3 fun w4 k4=> ?_
 replace hW:=hW.keep k4;clear k4;have hN:=hW.new #[.int .u64 0,.int .u64 0,.int .u64 0,.int .u64 0] 71;have gz:=hN.get 0 rfl;dsimp only at gz;unfold Blk at gz;go_wp2_with (first
  |(refine st t71 rfl rfl w4.heap.size rfl rfl gz sS rfl (ar _) ?_))
 replace hW:WD w w.heap.size [(w4.heap.size,Ws RS,71),(w.heap.size,#[.int .u64 0,.int .u64 0,.int .u64 0,.int .u64 0,.string ⟨#[]⟩,.string ⟨#[]⟩],73)] ((w4.alloc (.cells #[.int .u64 0,.int .u64 0,.int .u64 0,.int .u64 0] 71)).setRow w4.heap.size (Ws RS)):=hN.over 0 rfl (Ws RS);clear hN gz;generalize (w4.alloc (.cells #[.int .u64 0,.int .u64 0,.int .u64 0,.int .u64 0] 71)).setRow w4.heap.size (Ws RS)=w5 at hW⊢;generalize w4.heap.size=q4 at hW⊢;refine ai (S:=WD w (w.heap.size) [(q4,Ws RS,71),(w.heap.size,#[.int .u64 0,.int .u64 0,.int .u64 0,.int .u64 0,.string ⟨#[]⟩,.string ⟨#[]⟩],73)]) (ls:= [8]) (by kernel_rfl) ?_;have hW0:WD w (w.heap.size) [(q4,Ws RS,71),(w.heap.size,#[.int .u64 0,.int .u64 0,.int .u64 0,.int .u64 0,.string ⟨#[]⟩,.string ⟨#[]⟩],73)] w5.drew:=hW.drew;clear hW;generalize World.drew w5=gd at hW0⊢;refine af 0 11 t71 (fun _ h=>h.get 0 rfl) sS hW0 ?_;refine ac 1 12 hW0 ?_;refine aa 2 13 (v:= .string dr) hW0 ?_ ?_
 ·exact fun wx _=>by go_simp;try (with_reducible rfl)
 simp only[qQ];refine af 4 15 t71 (fun _ h=>h.get 0 rfl) sS hW0 ?_;try simp only[qQ]
 refine aj 3 fun K hK=> ?_
 go_simp;go_wp2_with (go_at_call 115;refine gv H4 fun gx0 k0=> ?_);have hW1:=hW0.keep k0;refine hK.out _ _ hW1 ?_;try simp only[qQ]
 clear hK K k0 hW0;refine aj 5 fun K hK=> ?_
 go_simp;go_wp2_with (go_at_call 116;refine gv H5 fun gx1 k0=> ?_);have hW2:=hW1.keep k0;refine hK.out _ _ hW2 ?_;try simp only[qQ]
 clear hK K k0 hW1;refine aj 6 fun K hK=> ?_
 go_simp;go_wp2_with (go_at_call 117;refine gv H6 fun gx2 k0=> ?_);have hW3:=hW2.keep k0;refine hK.out _ _ hW3 ?_;try simp only[qQ]
 clear hK K k0 hW2;refine aa 7 18 (v:= .agg SG) hW3 ?_ ?_
 ·exact fun wx _=>exec_made 73 _ rfl [(0,.agg (Ws RS)),(1,.string dr),(2,.string ri)] rfl _ (HB.out wx)
 simp only[qQ];refine fY (i:=8) (by kernel_rfl) rfl rfl (fun K9 hK=> ?_);have hst:=mZ (hW3.get 1 rfl) (cs':=SG) (by rw[sG];rfl) oG;dsimp only at hst;go_simp;refine hK.out _ _ ?_;clear hK K9 hst;have hE:=hW3.over 1 rfl SG;refine ak ?_;go_wp2;refine bodyPost_ret (v:= .agg SG) ?_ rfl ⟨rfl,hE.below⟩;exact results_cell_row rfl _ _ w.heap.size 73 _ (0,0) _ rfl (hE.get 1 rfl) Tryz.underlying73 rfl (by rw[sG];exact Tryz.infoG6)
theorem mM(K:Nat→BitVec 64)(BP:ByteArray)(w:World)(hs:BP.size=32)(hK:Tab K w):
  Rw 26 #[.string BP] w (.string ⟨(Sg.ui (Sha.digest K) BP.data.toList).toArray⟩):=by
 have H1:Hid (∀wx:World,Tab K wx→Rw 51 #[.string BP] wx (.agg (sgr (Sg.secret (Sha.digest K) BP.data.toList) ⟨(Sg.rest (Sha.digest K) BP.data.toList).toArray⟩ ⟨(Sg.ui (Sha.digest K) BP.data.toList).toArray⟩))):=fun wx h=>ki K BP wx hs h
 replace hK:Hid (Tab K w):=hK;generalize (⟨(Sg.ui (Sha.digest K) BP.data.toList).toArray⟩:ByteArray)=ri at H1⊢;generalize (⟨(Sg.rest (Sha.digest K) BP.data.toList).toArray⟩:ByteArray)=rr at H1;generalize Sg.secret (Sha.digest K) BP.data.toList=S at H1;have hf:=m9 S rr ri;generalize sgr S rr ri=SG at H1 hf;go_enter Tryz.func26,Tryz.ntmps26;go_wp2_with fail;refine(H1.out _ hK.out).mono ?_;rintro e w2 ⟨rfl,k2⟩;go_wp2;go_ret;exact⟨rfl,k2⟩
theorem qW(K:Nat→BitVec 64)(BP data rr ri rd d1 fb lb:ByteArray)(S ON rB rF TI TS LA:List (BitVec 64))(w:World)(hK:Hid (Tab K w))
  (H1:Hid (∀wx:World,Tab K wx→Rw 51 #[.string BP] wx (.agg (sgr S rr ri))))
  (H2:Hid (∀wx:World,Tab K wx→Rw 113 #[.string rd] wx (.string d1)))
  (H3:Hid (Rv 114 #[.string d1] (.agg (Ws ON))))
  (H4:Hid (Rv 115 #[] (.agg (Ws rB))))
  (H5:Hid (Rv 116 #[.agg (Ws rB),.agg (Ws ON)] (.agg (Ws rF))))
  (H6:Hid (Rv 117 #[.agg (Ws rF)] (.string fb)))
  (H7:Hid (∀wx:World,Tab K wx→Rw 122 #[.string fb,.string ri,.string data] wx (.agg (Ws TI))))
  (H8:Hid (Rv 123 #[.agg (Ws TI),.agg (Ws S)] (.agg (Ws TS))))
  (H9:Hid (Rv 121 #[.agg (Ws ON),.agg (Ws TS)] (.agg (Ws LA))))
  (J1:Hid (Rv 124 #[.agg (Ws LA)] (.string lb)))
  (hS:S.length=4) (hON:ON.length=4) (hLA:LA.length=4) (o1:Op.stringOp .add rr data=pure (.string rd)) (o2:Op.stringOp .add fb lb=pure (.string (fb++lb))):
  Rw 56 #[.string BP,.string data] w (.string (fb++lb)):=by
 have hK9:=hK;have sON:=Wz hON;have sLA:=Wz hLA;have sS:=Wz hS;have sG:=jC S rr ri;have oG:=kT S rr ri;have g4:(sgr S rr ri)[4]? =some (.string rr):=rfl;have g5:(sgr S rr ri)[5]? =some (.string ri):=rfl;have hrg:Hid (∀(w:World) (b t:Nat),Blk w b (sgr S rr ri) t→w.rangeAt b 0 (Ws S).toList):=fun w b t h=>m8 h hS
 generalize sgr S rr ri=SG at H1 sG oG g4 g5 hrg;generalize fb++lb=res at o2⊢;go_enter Tryz.func56,Tryz.ntmps56;go_wp2_with fail;refine(H1.out _ hK.out).mono ?_;rintro e w2 ⟨rfl,k2⟩;have hW:=(WD.start (w:=w)).keep k2;clear k2;have hN:=hW.new #[.int .u64 0,.int .u64 0,.int .u64 0,.int .u64 0,.string ⟨#[]⟩,.string ⟨#[]⟩] 73;have gz:=hN.get 0 rfl;dsimp only at gz;unfold Blk at gz;replace hW:WD w w.heap.size [(w2.heap.size,SG,73)] ((w2.alloc (.cells #[.int .u64 0,.int .u64 0,.int .u64 0,.int .u64 0,.string ⟨#[]⟩,.string ⟨#[]⟩] 73)).setRow w2.heap.size SG):=hN.over 0 rfl SG;have c4:=(hW.get 0 rfl).cell 4;dsimp only at c4;rw[g4]at c4;go_wp2_with (first
  |(refine wpList_store_row rfl 73 _ _ rfl w2.heap.size SG rfl rfl 73 _ gz (by rw[sG];exact Tryz.infoG6) (by rw[sG];rfl) oG ?_))
 clear hN gz c4;generalize (w2.alloc (.cells #[.int .u64 0,.int .u64 0,.int .u64 0,.int .u64 0,.string ⟨#[]⟩,.string ⟨#[]⟩] 73)).setRow w2.heap.size SG=w3 at hW⊢;generalize w2.heap.size=q5 at hW⊢;refine(H2.out _ (hK.out.below hW.below)).mono ?_;rintro e w4 ⟨rfl,k4⟩;replace hW:=hW.keep k4;clear k4;go_wp2_with fail;refine gv H3 fun w5 k5=> ?_
 replace hW:=hW.keep k5;clear k5;have hN:=hW.new #[.int .u64 0,.int .u64 0,.int .u64 0,.int .u64 0] 71;have gz:=hN.get 0 rfl;dsimp only at gz;unfold Blk at gz;go_wp2_with (first
  |(refine st t71 rfl rfl w5.heap.size rfl rfl gz sON rfl (ar _) ?_))
 replace hW:WD w w.heap.size [(w5.heap.size,Ws ON,71),(q5,SG,73)] ((w5.alloc (.cells #[.int .u64 0,.int .u64 0,.int .u64 0,.int .u64 0] 71)).setRow w5.heap.size (Ws ON)):=hN.over 0 rfl (Ws ON);clear hN gz;generalize (w5.alloc (.cells #[.int .u64 0,.int .u64 0,.int .u64 0,.int .u64 0] 71)).setRow w5.heap.size (Ws ON)=w6 at hW⊢;generalize w5.heap.size=q6 at hW⊢;refine ai (S:=WD w (w.heap.size) [(q6,Ws ON,71),(q5,SG,73)]) (ls:= []) (by kernel_rfl) ?_;have hW0:WD w (w.heap.size) [(q6,Ws ON,71),(q5,SG,73)] w6.drew:=hW.drew;clear hW;generalize World.drew w6=ad at hW0⊢;refine af 1 18 t71 (fun _ h=>h.get 0 rfl) sON hW0 ?_;try simp only[qQ]
 refine aj 0 fun K hK=> ?_
 go_simp;go_wp2_with (go_at_call 115;refine gv H4 fun ax0 k0=> ?_);have hW1:=hW0.keep k0;refine hK.out _ _ hW1 ?_;try simp only[qQ]
 clear hK K k0 hW0;refine aj 2 fun K hK=> ?_
 go_simp;go_wp2_with (go_at_call 116;refine gv H5 fun ax1 k0=> ?_);have hW2:=hW1.keep k0;refine hK.out _ _ hW2 ?_;try simp only[qQ]
 clear hK K k0 hW1;refine aj 3 fun K hK=> ?_
 go_simp;go_wp2_with (go_at_call 117;refine gv H6 fun ax2 k0=> ?_);have hW3:=hW2.keep k0;refine hK.out _ _ hW3 ?_;try simp only[qQ]
 clear hK K k0 hW2;refine ac 4 7 (v:= .string fb) hW3 ?_;try simp only[qQ]
 refine ak ?_;go_wp2_with fail;refine ai (S:=WD w (w.heap.size) [(q6,Ws ON,71),(q5,SG,73)]) (ls:= [11]) (by kernel_rfl) ?_;have Cb:WD w (w.heap.size) [(q6,Ws ON,71),(q5,SG,73)] ax2.drew:=hW3.drew;clear hW3;generalize World.drew ax2=bd at Cb⊢;refine af 0 21 t71 (fun _ h=>h.get 0 rfl) sON Cb ?_;refine ac 1 22 Cb ?_;refine ac 2 23 Cb ?_;simp only[qQ];refine aa 3 24 (v:= .string ri) Cb ?_ ?_
 ·exact fun wx BM=>(by have c5:=(BM.get 1 rfl).cell 5;dsimp only at c5;rw[g5]at c5;clear BM;go_simp;try (with_reducible rfl))
 refine ac 4 25 Cb ?_;refine ac 6 27 Cb ?_;simp only[qQ];refine aa 7 28 (v:= .agg (Ws S)) Cb ?_ ?_
 ·exact fun wx BM=>exec_mid 71 _ rfl q5 0 rfl (Ws S) _ (hrg.out _ _ _ (BM.get 1 rfl)) Tryz.underlying71 rfl (by rw[sS];exact Tryz.infoS4)
 try simp only[qQ]
 change al _ _ _ _ _ _ 5 #[true,true,true,true,true,false,true,true,false,false,false,false] _ _;refine aq (R:=fun d u w'=>(d 5=true→u 26= .agg (Ws TI))∧(d 8=true→u 29= .agg (Ws TS))∧(d 9=true→u 30= .agg (Ws LA))∧(d 10=true→Fresh w (w.heap.size) [(q6,Ws ON,71),(q5,SG,73)] #[.int .u64 0,.int .u64 0,.int .u64 0,.int .u64 0] 71 (u 8) w')∧WD w (w.heap.size) [(q6,Ws ON,71),(q5,SG,73)] w') [26,29,30,8] [5,8,9,10] #[true,true,true,true,true,true,true,true,true,true,true,false] (by kernel_rfl) (by kernel_rfl) (by kernel_rfl) ⟨fun h=>Bool.noConfusion h,fun h=>Bool.noConfusion h,fun h=>Bool.noConfusion h,fun h=>Bool.noConfusion h,Cb⟩ ?stepsb ?finb;case stepsb=>
  refine StepsU.cons rfl ?sb5 (StepsU.cons rfl ?sb8 (StepsU.cons rfl ?sb9 (StepsU.cons rfl ?sb10 StepsU.nil)));case sb5=>
   rintro d u wx ⟨h5,h8,h9,h10,hX⟩ hd K hK;simp only[ae,qF,qQ];go_simp;go_wp2_with (go_at_call 122;refine(H7.out _ (hK9.out.below hX.below)).mono ?_;rintro e x0 ⟨rfl,k0⟩);refine hK.out (upV u 26 (.agg (Ws TI))) _ (hX.keep k0) ⟨fun _=>rfl,fun h=>h8 h,fun h=>h9 h,fun h=>(h10 h).keep k0,hX.keep k0⟩ _ ?_;simp only[ae,qF,qQ,upV,reduceIte,Nat.reduceEqDiff]
  case sb8=>
   rintro d u wx ⟨h5,h8,h9,h10,hX⟩ hd K hK;have e5:=h5 (hd 5 (by kernel_rfl));simp only[ae,qF,qQ,e5];go_simp;go_wp2_with (go_at_call 123;refine gv H8 fun x0 k0=> ?_);refine hK.out (upV u 29 (.agg (Ws TS))) _ (hX.keep k0) ⟨fun h=>h5 h,fun _=>rfl,fun h=>h9 h,fun h=>(h10 h).keep k0,hX.keep k0⟩ _ ?_;simp only[ae,qF,qQ,upV,reduceIte,Nat.reduceEqDiff,e5]
  case sb9=>
   rintro d u wx ⟨h5,h8,h9,h10,hX⟩ hd K hK;have e8:=h8 (hd 8 (by kernel_rfl));simp only[ae,qF,qQ,e8];go_simp;go_wp2_with (go_at_call 121;refine gv H9 fun x0 k0=> ?_);refine hK.out (upV u 30 (.agg (Ws LA))) _ (hX.keep k0) ⟨fun h=>h5 h,fun h=>h8 h,fun _=>rfl,fun h=>(h10 h).keep k0,hX.keep k0⟩ _ ?_;simp only[ae,qF,qQ,upV,reduceIte,Nat.reduceEqDiff,e8]
  case sb10=>
   rintro d u wx ⟨h5,h8,h9,h10,hX⟩ hd K hK;simp only[ae,qF,qQ];go_simp;refine hK.out (upV u 8 (.pointer (some ⟨wx.heap.size,0,none⟩))) _ (hX.alloc _) ⟨fun h=>h5 h,fun h=>h8 h,fun h=>h9 h,fun _=>bg hX _ _,hX.alloc _⟩ _ ?_;simp only[ae,qF,qQ,upV,reduceIte,Nat.reduceEqDiff]
 case finb=>
  rintro n' d u bx ⟨h5,h8,h9,h10,hX⟩ hd;have e26:=h5 (hd 5 rfl);have e29:=h8 (hd 8 rfl);have e30:=h9 (hd 9 rfl);obtain⟨q8,e8,bq8,lq8,mq8⟩:=h10 (hd 10 rfl);simp only[ae,qF,qQ,e26,e29,e30,e8];clear hd h5 h8 h9 h10 e26 e29 e30 e8;change al _ _ _ _ _ _ (n'+1) _ _ _;replace hX:=hX.push bq8 mq8 (fun x hx=>Nat.ne_of_lt (lq8 x hx));clear bq8 lq8 mq8;refine am 11 fun K hK=> ?_
  have hst:=ao (l:=LA) (hX.get 0 rfl) (by rw[hLA];rfl);go_simp;refine hK.out _ _ ?_;clear hK K hst;replace hX:WD w (w.heap.size) [(q8,Ws LA,71),(q6,Ws ON,71),(q5,SG,73)] (bx.setRow (q8) (Ws LA)):=hX.over 0 rfl (Ws LA);generalize bx.setRow (q8) (Ws LA)=by0 at hX⊢;refine ak ?_;have g0:=hX.gt 0 rfl;go_wp2_with (first
   |(refine ld t71 rfl rfl q8 rfl g0 sLA ?_))
  clear g0;refine gv J1 fun w9 k9=> ?_
  replace hX:=hX.keep k9;go_wp2;go_ret;exact⟨rfl,hX.below⟩
theorem su(K:Nat→BitVec 64)(BP data:ByteArray)(w:World)(hs:BP.size=32)(hd:data.size≤100000)(hK:Tab K w):
  Rw 56 #[.string BP,.string data] w (.string ⟨(Sg.sign (Sha.digest K) BP.data.toList data.data.toList).toArray⟩):=by
 have H1:=fun wx h=>ki K BP wx hs h
 have lS:(Sg.secret (Sha.digest K) BP.data.toList).length=4:=Sc.vo _;have lr:(Sg.rest (Sha.digest K) BP.data.toList).length=32:=by unfold Sg.rest;rw[List.length_drop,fN]
 have li:=Sg.zP (Sha.digest K) BP.data.toList;have hE:Sg.sign (Sha.digest K) BP.data.toList data.data.toList=Sg.first (Sha.digest K) BP.data.toList data.data.toList++Ff.tY (Sg.last (Sha.digest K) BP.data.toList data.data.toList) 32:=by unfold Sg.sign Sc.bytes;with_reducible rfl
 have hL:Sg.last (Sha.digest K) BP.data.toList data.data.toList=Sc.plus (Sg.once (Sha.digest K) BP.data.toList data.data.toList) (Sc.times (Sg.tie (Sha.digest K) (Sg.first (Sha.digest K) BP.data.toList data.data.toList) (Sg.ui (Sha.digest K) BP.data.toList) data.data.toList) (Sg.secret (Sha.digest K) BP.data.toList)):=by unfold Sg.last;with_reducible rfl
 have hF:Sg.first (Sha.digest K) BP.data.toList data.data.toList=Cv.bytes (Cv.ut Cv.base (Sg.once (Sha.digest K) BP.data.toList data.data.toList)):=by unfold Sg.first;with_reducible rfl
 have hO:Sg.once (Sha.digest K) BP.data.toList data.data.toList=Sc.of (Sha.digest K (Sg.rest (Sha.digest K) BP.data.toList++data.data.toList)):=by unfold Sg.once;with_reducible rfl
 have lf:=Sg.Aj (Sha.digest K) BP.data.toList data.data.toList;generalize Sg.sign (Sha.digest K) BP.data.toList data.data.toList=SI at hE⊢;generalize Sg.last (Sha.digest K) BP.data.toList data.data.toList=LA at hE hL;generalize Sg.first (Sha.digest K) BP.data.toList data.data.toList=FI at hE hL hF lf;generalize Sg.once (Sha.digest K) BP.data.toList data.data.toList=ON at hL hF hO;generalize Sg.secret (Sha.digest K) BP.data.toList=S at H1 hL lS;generalize Sg.ui (Sha.digest K) BP.data.toList=ID at H1 hL li;generalize Sg.rest (Sha.digest K) BP.data.toList=RE at H1 hO lr;have zr:(⟨RE.toArray⟩:ByteArray).size=32:=lr;have dr:(⟨RE.toArray⟩:ByteArray).data.toList=RE:=rfl;have zi:(⟨ID.toArray⟩:ByteArray).size=32:=li;have di:(⟨ID.toArray⟩:ByteArray).data.toList=ID:=rfl;have zf:(⟨FI.toArray⟩:ByteArray).size=32:=lf;have df:(⟨FI.toArray⟩:ByteArray).data.toList=FI:=rfl;have hrd:((⟨RE.toArray⟩:ByteArray)++data).data.toList=RE++data.data.toList:=by rw[eK]
 have o1:=ip ⟨RE.toArray⟩ data (by omega);have srd:((⟨RE.toArray⟩:ByteArray)++data).size=32+data.size:=by rw[ByteArray.size_append,zr]
 generalize (⟨RE.toArray⟩:ByteArray)++data=rd at hrd o1 srd;have H2:=fun wx h=>gY K rd wx (by omega) h
 rw[hrd]at H2;have ld:=fN K (RE++data.data.toList);generalize Sha.digest K (RE++data.data.toList)=D1 at H2 hO ld;have H3:=fun wx=>mH ⟨D1.toArray⟩ wx (by show D1.length≤_;omega)
 have H3':Rv 114 #[.string ⟨D1.toArray⟩] (.agg (Ws ON)):=by rw[hO];exact H3
 have lO:ON.length=4:=by rw[hO];exact Sc.vo _
 have H5:=fun wx=>fU Cv.base ON wx (jm rfl rfl rfl) lO
 have H6:=fun wx=>fV (Cv.ut Cv.base ON) wx (Cv.xD _ _)
 rw[←hF]at H6;have H7:=fun wx h=>pQ K ⟨FI.toArray⟩ ⟨ID.toArray⟩ data wx (by omega) (by omega) (by omega) h
 rw[df,di]at H7;have lT:(Sg.tie (Sha.digest K) FI ID data.data.toList).length=4:=Sc.vo _;generalize Sg.tie (Sha.digest K) FI ID data.data.toList=TI at H7 hL lT;have H8:=fun wx=>qP TI S wx lT lS
 have lTS:=Sc.times_length TI S;generalize Sc.times TI S=TS at H8 hL lTS;have H9:=fun wx=>ft ON TS wx lO lTS
 rw[←hL]at H9;have lL:LA.length=4:=by rw[hL,Sc.plus_length,lO]
 have J1:=fun wx=>lu LA wx lL
 have lB:=Ff.vq LA 32;have hfl:(⟨SI.toArray⟩:ByteArray)=⟨FI.toArray⟩++⟨(Ff.tY LA 32).toArray⟩:=by
  apply ByteArray.ext
  apply Array.toList_inj.1
  rw[eK,hE]
 generalize Ff.tY LA 32=BB at J1 lB hfl;have o2:=ip ⟨FI.toArray⟩ ⟨BB.toArray⟩ (by have:(⟨BB.toArray⟩:ByteArray).size=32:=lB;omega);rw[hfl];exact qW K BP data ⟨RE.toArray⟩ ⟨ID.toArray⟩ rd ⟨D1.toArray⟩ ⟨FI.toArray⟩ ⟨BB.toArray⟩ S ON _ _ TI TS LA w hK H1 H2 H3' ko H5 H6 H7 H8 H9 J1 lS lO lL o1 o2
theorem pv(K:Nat→BitVec 64)(id data sig fi la nb bb:ByteArray)(PT NU rB TI rX rN rS rZ:List (BitVec 64))(B7:Bool)(w:World)(hK:Hid (Tab K w))(hsz:sig.size=64)(x1:sig.extract 0 32=fi)(x2:sig.extract 32 64=la)
  (H1:Hid (Rv 188 #[.string id] (.tuple #[.agg (Ws PT),.bool B7])))
  (H2:Hid (Rv 114 #[.string la] (.agg (Ws NU))))
  (H3:Hid (Rv 124 #[.agg (Ws NU)] (.string nb)))
  (H4:Hid (∀wx:World,Tab K wx→Rw 122 #[.string fi,.string id,.string data] wx (.agg (Ws TI))))
  (H5:Hid (Rv 116 #[.agg (Ws PT),.agg (Ws TI)] (.agg (Ws rX))))
  (H6:Hid (Rv 189 #[.agg (Ws rX)] (.agg (Ws rN))))
  (H7:Hid (Rv 115 #[] (.agg (Ws rB))))
  (H8:Hid (Rv 116 #[.agg (Ws rB),.agg (Ws NU)] (.agg (Ws rS))))
  (H9:Hid (Rv 174 #[.agg (Ws rS),.agg (Ws rN)] (.agg (Ws rZ))))
  (J1:Hid (Rv 117 #[.agg (Ws rZ)] (.string bb)))
  (hPT:PT.length=15) (hNU:NU.length=4) (hrN:rN.length=15):
  Rw 133 #[.string id,.string data,.string sig] w (.bool (if B7=true then(if nb=la then(bb.toList==fi.toList)else false)else false)):=by
 have hK9:=hK;have hz:=dE;have sZ:=cT;generalize Z15=ZO at hz sZ;have sZ':=Wz sZ;have sPT:=Wz hPT;have sNU:=Wz hNU;have srN:=Wz hrN;generalize hV:(if B7=true then(if nb=la then(bb.toList==fi.toList)else false)else false)=V;replace hV:Hid ((if B7=true then(if nb=la then(bb.toList==fi.toList)else false)else false)=V):=hV;go_enter Tryz.func133,Tryz.ntmps133;go_wp2_with fail;refine gv H1 fun w2 k2=> ?_
 have hW:=(WD.start (w:=w)).keep k2;clear k2;have hN:=hW.new (Ws ZO) 122;have gz:=hN.get 0 rfl;dsimp only at gz;unfold Blk at gz;replace hW:WD w w.heap.size [(w2.heap.size,Ws PT,122)] ((w2.alloc (.cells (Ws ZO) 122)).setRow w2.heap.size (Ws PT)):=hN.over 0 rfl (Ws PT);cases B7 with
 |false=>
  go_wp2_with (first
   |(refine wpList_store_row rfl 122 _ _ rfl w2.heap.size _ rfl rfl 122 _ gz (by rw[sPT];exact Tryz.infoP15) (by rw[sPT,sZ']) (ar _) ?_))
  have hV':V=false:=by rw[←show _=V from hV.out];first|rfl|simp
  go_ret;exact⟨by rw[hV'];rfl,hW.below⟩
 |true=>
  go_wp2_with (first
   |(refine wpList_store_row rfl 122 _ _ rfl w2.heap.size _ rfl rfl 122 _ gz (by rw[sPT];exact Tryz.infoP15) (by rw[sPT,sZ']) (ar _) ?_))
  clear hN gz;generalize (w2.alloc (.cells (Ws ZO) 122)).setRow w2.heap.size (Ws PT)=w3 at hW⊢;generalize w2.heap.size=q7 at hW⊢;refine ai (S:=WD w (w.heap.size) [(q7,Ws PT,122)]) (ls:= []) (by kernel_rfl) ?_;have hW0:WD w (w.heap.size) [(q7,Ws PT,122)] w3.drew:=hW.drew;clear hW;generalize World.drew w3=ad at hW0⊢;refine ac 0 20 hW0 ?_;refine aa 1 21 (v:= .string fi) hW0 ?_ ?_
  ·exact fun wx _=>by go_simp;try (with_reducible rfl)
  refine ac 2 22 hW0 ?_;simp only[qQ];refine aa 3 23 (v:= .string la) hW0 ?_ ?_
  ·exact fun wx _=>by go_simp;try (with_reducible rfl)
  refine aa 4 9 (v:= .string fi) hW0 ?_ ?_
  ·exact fun wx _=>by go_simp;try (with_reducible rfl)
  refine aa 5 10 (v:= .string la) hW0 ?_ ?_
  ·exact fun wx _=>by go_simp;try (with_reducible rfl)
  try simp only[qQ]
  refine ak ?_;generalize ad=w4 at hW0⊢;go_wp2_with fail;refine gv H2 fun w5 k5=> ?_
  have hW1:=hW0.keep k5;clear k5 hW0;have hN:=hW1.new #[.int .u64 0,.int .u64 0,.int .u64 0,.int .u64 0] 71;have gz:=hN.get 0 rfl;dsimp only at gz;unfold Blk at gz;replace hW1:WD w w.heap.size [(w5.heap.size,Ws NU,71),(q7,Ws PT,122)] ((w5.alloc (.cells #[.int .u64 0,.int .u64 0,.int .u64 0,.int .u64 0] 71)).setRow w5.heap.size (Ws NU)):=hN.over 0 rfl (Ws NU);have g0:=hW1.gt 0 rfl;go_wp2_with (first
   |(refine st t71 rfl rfl w5.heap.size rfl rfl gz sNU rfl (ar _) ?_)
   |(refine ld t71 rfl rfl w5.heap.size rfl g0 sNU ?_))
  clear hN gz g0;generalize (w5.alloc (.cells #[.int .u64 0,.int .u64 0,.int .u64 0,.int .u64 0] 71)).setRow w5.heap.size (Ws NU)=w6 at hW1⊢;generalize w5.heap.size=q11 at hW1⊢;refine gv H3 fun w7 k7=> ?_
  replace hW1:=hW1.keep k7;clear k7;by_cases hT:nb=la
  ·have hT':Hid (nb=la):=hT;clear hT;rw[hT'.out];go_wp2_with fail;refine ai (S:=WD w (w.heap.size) [(q11,Ws NU,71),(q7,Ws PT,122)]) (ls:= [8]) (by kernel_rfl) ?_;have hW10:WD w (w.heap.size) [(q11,Ws NU,71),(q7,Ws PT,122)] w7.drew:=hW1.drew;clear hW1;generalize World.drew w7=bd at hW10⊢;refine af 0 30 cf (fun _ h=>h.get 1 rfl) sPT hW10 ?_;refine ac 1 31 hW10 ?_;refine ac 2 32 hW10 ?_;simp only[qQ];refine ac 3 33 hW10 ?_;try simp only[qQ]
   change al _ _ _ _ _ _ 5 #[true,true,true,true,false,false,false,false,false] _ _;refine aq (R:=fun d u w'=>(d 4=true→u 34= .agg (Ws TI))∧(d 5=true→u 35= .agg (Ws rX))∧(d 6=true→u 36= .agg (Ws rN))∧(d 7=true→Fresh w (w.heap.size) [(q11,Ws NU,71),(q7,Ws PT,122)] (Ws ZO) 122 (u 12) w')∧WD w (w.heap.size) [(q11,Ws NU,71),(q7,Ws PT,122)] w') [34,35,36,12] [4,5,6,7] #[true,true,true,true,true,true,true,true,false] (by kernel_rfl) (by kernel_rfl) (by kernel_rfl) ⟨fun h=>Bool.noConfusion h,fun h=>Bool.noConfusion h,fun h=>Bool.noConfusion h,fun h=>Bool.noConfusion h,hW10⟩ ?stepsb ?finb;case stepsb=>
    refine StepsU.cons rfl ?sb4 (StepsU.cons rfl ?sb5 (StepsU.cons rfl ?sb6 (StepsU.cons rfl ?sb7 StepsU.nil)));case sb4=>
     rintro d u wx ⟨h4,h5,h6,h7,hX⟩ hd K hK;simp only[ae,qF,qQ];go_simp;go_wp2_with (go_at_call 122;refine(H4.out _ (hK9.out.below hX.below)).mono ?_;rintro e x0 ⟨rfl,k0⟩);refine hK.out (upV u 34 (.agg (Ws TI))) _ (hX.keep k0) ⟨fun _=>rfl,fun h=>h5 h,fun h=>h6 h,fun h=>(h7 h).keep k0,hX.keep k0⟩ _ ?_;simp only[ae,qF,qQ,upV,reduceIte,Nat.reduceEqDiff]
    case sb5=>
     rintro d u wx ⟨h4,h5,h6,h7,hX⟩ hd K hK;have e4:=h4 (hd 4 (by kernel_rfl));simp only[ae,qF,qQ,e4];go_simp;go_wp2_with (go_at_call 116;refine gv H5 fun x0 k0=> ?_);refine hK.out (upV u 35 (.agg (Ws rX))) _ (hX.keep k0) ⟨fun h=>h4 h,fun _=>rfl,fun h=>h6 h,fun h=>(h7 h).keep k0,hX.keep k0⟩ _ ?_;simp only[ae,qF,qQ,upV,reduceIte,Nat.reduceEqDiff,e4]
    case sb6=>
     rintro d u wx ⟨h4,h5,h6,h7,hX⟩ hd K hK;have e5:=h5 (hd 5 (by kernel_rfl));simp only[ae,qF,qQ,e5];go_simp;go_wp2_with (go_at_call 189;refine gv H6 fun x0 k0=> ?_);refine hK.out (upV u 36 (.agg (Ws rN))) _ (hX.keep k0) ⟨fun h=>h4 h,fun h=>h5 h,fun _=>rfl,fun h=>(h7 h).keep k0,hX.keep k0⟩ _ ?_;simp only[ae,qF,qQ,upV,reduceIte,Nat.reduceEqDiff,e5]
    case sb7=>
     rintro d u wx ⟨h4,h5,h6,h7,hX⟩ hd K hK;simp only[ae,qF,qQ];go_simp;refine hK.out (upV u 12 (.pointer (some ⟨wx.heap.size,0,none⟩))) _ (hX.alloc _) ⟨fun h=>h4 h,fun h=>h5 h,fun h=>h6 h,fun _=>bg hX _ _,hX.alloc _⟩ _ ?_;simp only[ae,qF,qQ,upV,reduceIte,Nat.reduceEqDiff]
   case finb=>
    rintro n' d u bx ⟨h4,h5,h6,h7,hX⟩ hd;have e34:=h4 (hd 4 rfl);have e35:=h5 (hd 5 rfl);have e36:=h6 (hd 6 rfl);obtain⟨q12,e12,bq12,lq12,mq12⟩:=h7 (hd 7 rfl);simp only[ae,qF,qQ,e34,e35,e36,e12];clear hd h4 h5 h6 h7 e34 e35 e36 e12;change al _ _ _ _ _ _ (n'+1) _ _ _;replace hX:=hX.push bq12 mq12 (fun x hx=>Nat.ne_of_lt (lq12 x hx));clear bq12 lq12 mq12;refine am 8 fun K hK=> ?_
    have hst:=ao (l:=rN) (hX.get 0 rfl) (by rw[sZ',hrN]);go_simp;refine hK.out _ _ ?_;clear hK K hst;replace hX:WD w (w.heap.size) [(q12,Ws rN,122),(q11,Ws NU,71),(q7,Ws PT,122)] (bx.setRow (q12) (Ws rN)):=hX.over 0 rfl (Ws rN);generalize bx.setRow (q12) (Ws rN)=by0 at hX⊢;refine ak ?_;go_wp2_with fail;refine ai (S:=WD w (w.heap.size) [(q12,Ws rN,122),(q11,Ws NU,71),(q7,Ws PT,122)]) (ls:= []) (by kernel_rfl) ?_;have hX0:WD w (w.heap.size) [(q12,Ws rN,122),(q11,Ws NU,71),(q7,Ws PT,122)] by0.drew:=hX.drew;clear hX;generalize World.drew by0=cd at hX0⊢;refine af 1 38 t71 (fun _ h=>h.get 1 rfl) sNU hX0 ?_;refine af 3 40 cf (fun _ h=>h.get 0 rfl) srN hX0 ?_;refine ac 6 43 hX0 ?_;try simp only[qQ]
    refine aj 0 fun K hK=> ?_
    go_simp;go_wp2_with (go_at_call 115;refine gv H7 fun cx0 k0=> ?_);have hX1:=hX0.keep k0;refine hK.out _ _ hX1 ?_;try simp only[qQ]
    clear hK K k0 hX0;refine aj 2 fun K hK=> ?_
    go_simp;go_wp2_with (go_at_call 116;refine gv H8 fun cx1 k0=> ?_);have hX2:=hX1.keep k0;refine hK.out _ _ hX2 ?_;try simp only[qQ]
    clear hK K k0 hX1;refine aj 4 fun K hK=> ?_
    go_simp;go_wp2_with (go_at_call 174;refine gv H9 fun cx2 k0=> ?_);have hX3:=hX2.keep k0;refine hK.out _ _ hX3 ?_;try simp only[qQ]
    clear hK K k0 hX2;refine aj 5 fun K hK=> ?_
    go_simp;go_wp2_with (go_at_call 117;refine gv J1 fun cx3 k0=> ?_);have hX4:=hX3.keep k0;refine hK.out _ _ hX4 ?_;try simp only[qQ]
    clear hK K k0 hX3;refine ac 7 44 (v:= .bool (bb.toList==fi.toList)) hX4 ?_;try simp only[qQ]
    refine ac 8 6 (v:= .bool (bb.toList==fi.toList)) hX4 ?_;try simp only[qQ]
    refine ak ?_;have hV':V=(bb.toList==fi.toList):=by rw[←show _=V from hV.out,if_pos trivial,if_pos hT'.out]
    go_wp2;go_ret;exact⟨by rw[hV'];rfl,hX4.below⟩
  ·have hcmp:=gK hT;go_wp2;have hV':V=false:=by rw[←show _=V from hV.out,if_pos trivial,if_neg hT]
   go_ret;exact⟨by rw[hV'];rfl,hW1.below⟩
theorem fZ(s:ByteArray):s.toList=s.data.toList:=ByteArray.toList_eq s
theorem qX(K:Nat→BitVec 64)(id data sig:ByteArray)(w:World)(hi:id.size=32)(hd:data.size≤100000)(hg:sig.size=64)(hK:Tab K w):
  Rw 133 #[.string id,.string data,.string sig] w (.bool (Sg.right (Sha.digest K) id.data.toList data.data.toList sig.data.toList)):=by
 have H1:=fun wx=>tM id wx hi
 have e1:(sig.extract 0 32).data.toList=sig.data.toList.take 32:=jP _ _;have e2:(sig.extract 32 64).data.toList=sig.data.toList.drop 32:=by rw[←hg,jQ]
 have z1:(sig.extract 0 32).size=32:=by simp;omega
 have z2:(sig.extract 32 64).size=32:=by simp;omega
 have hE:Sg.right (Sha.digest K) id.data.toList data.data.toList sig.data.toList=if (Cv.of id.data.toList).2=true then(if Sc.bytes (Sc.of (sig.data.toList.drop 32))=sig.data.toList.drop 32 then decide (Sg.want (Sha.digest K) (Cv.of id.data.toList).1 id.data.toList data.data.toList (sig.data.toList.take 32) (Sc.of (sig.data.toList.drop 32))=sig.data.toList.take 32)else false)else false:=by unfold Sg.right;with_reducible rfl
 have hwant:Sg.want (Sha.digest K) (Cv.of id.data.toList).1 id.data.toList data.data.toList (sig.data.toList.take 32) (Sc.of (sig.data.toList.drop 32))=Cv.bytes (Cv.plus (Cv.ut Cv.base (Sc.of (sig.data.toList.drop 32))) (Cv.negated (Cv.ut (Cv.of id.data.toList).1 (Sg.tie (Sha.digest K) (sig.data.toList.take 32) id.data.toList data.data.toList)))):=by unfold Sg.want;with_reducible rfl
 have okP:Cv.Ok (Cv.of id.data.toList).1:=Cv.of_ok _;rw[hwant]at hE;clear hwant;rw[←e1,←e2]at hE;generalize Sg.right (Sha.digest K) id.data.toList data.data.toList sig.data.toList=RES at hE⊢;generalize (Cv.of id.data.toList).1=Pq at H1 hE okP;generalize (Cv.of id.data.toList).2=B7 at H1 hE;obtain⟨fi,x1⟩: ∃f,sig.extract 0 32=f:=⟨_,rfl⟩
 obtain⟨la,x2⟩: ∃f,sig.extract 32 64=f:=⟨_,rfl⟩
 rw[x1]at hE z1;rw[x2]at hE z2;have H2:=fun wx=>mH la wx (by omega)
 have lN:=Sc.vo la.data.toList;generalize Sc.of la.data.toList=NU at H2 hE lN;have H3:=fun wx=>lu NU wx lN
 have hby:Sc.bytes NU=Ff.tY NU 32:=by unfold Sc.bytes;with_reducible rfl
 rw[hby]at hE;generalize Ff.tY NU 32=NB at H3 hE;have H4:=fun wx h=>pQ K fi id data wx (by omega) (by omega) (by omega) h
 have lT:(Sg.tie (Sha.digest K) fi.data.toList id.data.toList data.data.toList).length=4:=Sc.vo _;generalize Sg.tie (Sha.digest K) fi.data.toList id.data.toList data.data.toList=TI at H4 hE lT;have H5:=fun wx=>fU Pq TI wx okP lT
 have ok5:=Cv.xD Pq TI;generalize Cv.ut Pq TI=X at H5 hE ok5;have H6:=fun wx=>og X wx ok5
 have ok6:Cv.Ok (Cv.negated X):=jm (Ff.uU _) ok5.2.1 ok5.2.2;generalize Cv.negated X=XN at H6 hE ok6;have H8:=fun wx=>fU Cv.base NU wx (jm rfl rfl rfl) lN
 have ok8:=Cv.xD Cv.base NU;generalize Cv.ut Cv.base NU=XS at H8 hE ok8;have H9:=fun wx=>km XS XN wx ok8 ok6
 have ok9:=Cv.zB XS XN;generalize Cv.plus XS XN=XZ at H9 hE ok9;have J1:=fun wx=>fV XZ wx ok9
 generalize Cv.bytes XZ=BB at J1 hE;have hh:=pv K id data sig fi la ⟨NB.toArray⟩ ⟨BB.toArray⟩ (Cv.row Pq) NU _ TI _ _ _ _ B7 w hK hg x1 x2 H1 H2 H3 H4 H5 H6 ko H8 H9 J1 okP.row lN ok6.row;have hr:(if B7=true then(if(⟨NB.toArray⟩:ByteArray)=la then((⟨BB.toArray⟩:ByteArray).toList==fi.toList)else false)else false)=RES:=by
  rw[hE];by_cases h1:B7=true
  ·rw[if_pos h1,if_pos h1];by_cases h2:NB=la.data.toList
   ·rw[if_pos (fK.2 h2),if_pos h2,fZ,fZ];show(BB==fi.data.toList)=_
    rw[Bool.eq_iff_iff];simp
   ·rw[if_neg (fun e=>h2 (fK.1 e)),if_neg h2]
  ·rw[if_neg h1,if_neg h1]
 rw[hr]at hh;exact hh
theorem dZ(s:ByteArray)(limit:Nat)(w:World)(hl:limit≤1000000)(hs:s.size≤140737488351232):
  Calls Tryz.prog 27 #[.int .i64 limit,.slice (some ⟨w.heap.size,0,none⟩) 1 1] (w.alloc (.cells (Ss [s]) 9)) fun e w'=>e= .returned (.bool (decide (limit<s.size)))∧w'=w.alloc (.cells (Ss [s]) 9):=by
 have:=cn w.heap.size 1 limit [s] 9 _ hl rfl (by omega) (Blk.new w _ _) (by intro j hj;match j,hj with|0,_=>show s.size≤_;omega);rw[fQ]at this;exact this
theorem kj(K:Nat→BitVec 64)(s:ByteArray)(w:World)(hs:s.size=32)(hK:Tab K w):
  Rw 13 #[.string s] w (.tuple #[.string ⟨(Sg.ui (Sha.digest K) s.data.toList).toArray⟩,.int .i64 0]):=by
 have BI:Below w.heap.size w (w.alloc (.cells (Ss [s]) 9)):=bR.alloc nR _;have HT:=bJ s w (by omega);have e2:decide (¬(s.size=32))=false:=by simp[hs]
 rw[e2]at HT;replace HT:Hid (Calls Tryz.prog 24 #[.slice (some ⟨w.heap.size,0,none⟩) 1 1] (w.alloc (.cells (Ss [s]) 9)) fun e w'=>e= .returned (.bool false)∧w'=w.alloc (.cells (Ss [s]) 9)):=HT;have HU:Hid (∀wx:World,Tab K wx→Rw 26 #[.string s] wx (.string ⟨(Sg.ui (Sha.digest K) s.data.toList).toArray⟩)):=fun wx h=>mM K s wx hs h
 generalize Sg.ui (Sha.digest K) s.data.toList=R at HU⊢;replace hK:Hid (Tab K w):=hK;clear e2 hs;go_enter Tryz.func13,Tryz.ntmps13;go_wp2_with fail;refine HT.out.mono ?_;rintro e w' ⟨rfl,rfl⟩;go_wp2_with fail;refine(HU.out _ (hK.out.below BI)).mono ?_;rintro e w2 ⟨rfl,hb2⟩;go_wp2;go_ret2;exact⟨rfl,BI.trans (hb2.mono BI.size)⟩
theorem pf(K:Nat→BitVec 64)(s d:ByteArray)(w:World)(hs:s.size=32)(hd:d.size≤12000)(hK:Tab K w):
  Rw 99 #[.string s,.string d] w (.tuple #[.string ⟨(Sg.sign (Sha.digest K) s.data.toList d.data.toList).toArray⟩,.int .i64 0]):=by
 have BR:Below w.heap.size w (w.alloc (.cells (Ss [s]) 9)):=bR.alloc nR _;have BI:Below w.heap.size w ((w.alloc (.cells (Ss [s]) 9)).alloc (.cells (Ss [d]) 9)):=BR.alloc (by simp) _;have HT:=bJ s w (by omega);have e2:decide (¬(s.size=32))=false:=by simp[hs]
 rw[e2]at HT;replace HT:Hid (Calls Tryz.prog 24 #[.slice (some ⟨w.heap.size,0,none⟩) 1 1] (w.alloc (.cells (Ss [s]) 9)) fun e w'=>e= .returned (.bool false)∧w'=w.alloc (.cells (Ss [s]) 9)):=HT;have HL:=dZ d 12000 (w.alloc (.cells (Ss [s]) 9)) (by omega) (by omega);have e3:decide (12000<d.size)=false:=by simp;omega
 rw[e3,show (w.alloc (.cells (Ss [s]) 9)).heap.size=w.heap.size+1 by simp]at HL;replace HL:Hid (Calls Tryz.prog 27 #[.int .i64 12000,.slice (some ⟨w.heap.size+1,0,none⟩) 1 1] ((w.alloc (.cells (Ss [s]) 9)).alloc (.cells (Ss [d]) 9)) fun e w'=>e= .returned (.bool false)∧w'=(w.alloc (.cells (Ss [s]) 9)).alloc (.cells (Ss [d]) 9)):=HL;have HU:Hid (∀wx:World,Tab K wx→Rw 56 #[.string s,.string d] wx (.string ⟨(Sg.sign (Sha.digest K) s.data.toList d.data.toList).toArray⟩)):=fun wx h=>su K s d wx hs (by omega) h
 generalize Sg.sign (Sha.digest K) s.data.toList d.data.toList=R at HU⊢;replace hK:Hid (Tab K w):=hK;clear e2 e3 hs BR;go_enter Tryz.func99,Tryz.ntmps99;go_wp2_with fail;refine HT.out.mono ?_;rintro e w' ⟨rfl,rfl⟩;go_wp2_with fail;refine HL.out.mono ?_;rintro e w' ⟨rfl,rfl⟩;go_wp2_with fail;refine(HU.out _ (hK.out.below BI)).mono ?_;rintro e w2 ⟨rfl,hb2⟩;go_wp2;go_ret2;exact⟨rfl,BI.trans (hb2.mono BI.size)⟩
theorem mD(K:Nat→BitVec 64)(i d g:ByteArray)(w:World)(hi:i.size=32)(hd:d.size≤12000)(hK:Tab K w):
  Rw 101 #[.string i,.string d,.string g] w (.bool (if g.size=64 then Sg.right (Sha.digest K) i.data.toList d.data.toList g.data.toList else false)):=by
 have BR:Below w.heap.size w (w.alloc (.cells (Ss [i]) 9)):=bR.alloc nR _;have BI:Below w.heap.size w ((w.alloc (.cells (Ss [i]) 9)).alloc (.cells (Ss [d]) 9)):=BR.alloc (by simp) _;have HT:=bJ i w (by omega);have e2:decide (¬(i.size=32))=false:=by simp[hi]
 rw[e2]at HT;replace HT:Hid (Calls Tryz.prog 24 #[.slice (some ⟨w.heap.size,0,none⟩) 1 1] (w.alloc (.cells (Ss [i]) 9)) fun e w'=>e= .returned (.bool false)∧w'=w.alloc (.cells (Ss [i]) 9)):=HT;have HL:=dZ d 12000 (w.alloc (.cells (Ss [i]) 9)) (by omega) (by omega);have e3:decide (12000<d.size)=false:=by simp;omega
 rw[e3,show (w.alloc (.cells (Ss [i]) 9)).heap.size=w.heap.size+1 by simp]at HL;replace HL:Hid (Calls Tryz.prog 27 #[.int .i64 12000,.slice (some ⟨w.heap.size+1,0,none⟩) 1 1] ((w.alloc (.cells (Ss [i]) 9)).alloc (.cells (Ss [d]) 9)) fun e w'=>e= .returned (.bool false)∧w'=(w.alloc (.cells (Ss [i]) 9)).alloc (.cells (Ss [d]) 9)):=HL;by_cases hg64:g.size=64
 ·have HU:Hid (∀wx:World,Tab K wx→Rw 133 #[.string i,.string d,.string g] wx (.bool (Sg.right (Sha.digest K) i.data.toList d.data.toList g.data.toList))):=fun wx h=>qX K i d g wx hi (by omega) hg64 h
  rw[if_pos hg64];generalize Sg.right (Sha.digest K) i.data.toList d.data.toList g.data.toList=R at HU⊢;replace hK:Hid (Tab K w):=hK;have hgi:(g.size:Int)=64:=by omega
  clear e2 e3 hi BR;go_enter Tryz.func101,Tryz.ntmps101;go_wp2_with fail;refine HT.out.mono ?_;rintro e w' ⟨rfl,rfl⟩;go_wp2_with fail;refine HL.out.mono ?_;rintro e w' ⟨rfl,rfl⟩;go_wp2_with fail;refine(HU.out _ (hK.out.below BI)).mono ?_;rintro e w2 ⟨rfl,hb2⟩;go_wp2;go_ret;exact⟨rfl,BI.trans (hb2.mono BI.size)⟩
 ·rw[if_neg hg64];have hgi: ¬(g.size:Int)=64:=by omega
  clear e2 e3 hi BR hK;go_enter Tryz.func101,Tryz.ntmps101;go_wp2_with fail;refine HT.out.mono ?_;rintro e w' ⟨rfl,rfl⟩;go_wp2_with fail;refine HL.out.mono ?_;rintro e w' ⟨rfl,rfl⟩;go_wp2;go_ret;exact⟨rfl,BI⟩
end Go.Proofs.YtclpbaokadfhhaaGreatDoor
