import Derived.Test.YtclpbaokadfhhaaGreatDoorYb
set_option maxRecDepth 100000
set_option maxHeartbeats 20000000
open Go.Value renaming agg->Qa,int->Qc,bool->Qd,tuple->Qe,string->Qf
open Go.IntKind renaming u64->Qg,u8->Qi,wrap_u8->Qj
open List renaming foldl_cons->Qk,foldl_nil->Qm,map_cons->Qn,map_nil->Qo,cons_append->Qp,nil_append->Qq,range->Qt
open Go renaming wpList_store_row->Qx,bodyPost_ret->Qy,World->Qz,run_underlying->QA
open Go.Proofs.Tryz renaming underlying69->QB,prog->QC,underlying122->QD
open Go.Proofs.YtclpbaokadfhhaaGreatDoor.Tryz renaming infoP15->QE,infoF5->QF
open Go.Obj renaming cells->QG
open Go.Op renaming equalIn->QH,eqItems->QI
open Go.Instr renaming build->QJ
namespace Go.Proofs.YtclpbaokadfhhaaGreatDoor
open Go.RowKit
theorem Tz(w:Qz):(QJ 122 #[(1,Qa (Ws Ff_one5)),(2,Qa (Ws Ff_one5))]).run QC w=.ok (Qa (Ws (bM uJ))) w:=run_build w _ _ _ kr
theorem start_ok:Cv_Ok uJ:=⟨rfl,rfl,rfl⟩
theorem FH(a:Cv_Pn)(n:Ql)(w:Qz)(ha:Cv_Ok a)(hn:n.length=4):
  Rw 116 #[Qa (Ws (bM a)),Qa (Ws n)] w (Qa (Ws (bM (fB a n)))):=by
 have hz:=yZ;have K:=Qr UT;have z:=Tz;have sZ:=wJ;generalize Z15=d at hz sZ;generalize Ff_one5=O at K z;have ag:=Wz sZ;have la:=ha.row;have sa:=Wz la;have sn:=Wz hn;have L:=Qh (p:=fB a n=dw a n 253) rfl
 generalize fB a n=R at L|-;have e:=start_ok.row;have J:=Wz e;have HP:=Qh λp hp s=>Pt p a s hp ha
 generalize an:bM a=g at la sa HP|-;clear an;have b:WD w w.heap.size [(w.heap.size+1+1,Ws d,122),(w.heap.size+1,Ws n,71),(w.heap.size,Ws g,122)] (((w.alloc (QG (Ws g) 122)).alloc (QG (Ws n) 71)).alloc (QG (Ws d) 122)):=by
  have h1:=(WD.start (w:=w)).new (Ws g) 122;have h2:=h1.new (Ws n) 71;rw[show (w.alloc (QG (Ws g) 122)).heap.size=w.heap.size+1 by simp]at h2;have h3:=h2.new (Ws d) 122;rw[show ((w.alloc (QG (Ws g) 122)).alloc (QG (Ws n) 71)).heap.size=w.heap.size+1+1 by simp]at h3;exact h3
 go_enter Tryz.func116,Tryz.ntmps116;go_wp2_with fail;generalize ((w.alloc (QG (Ws g) 122)).alloc (QG (Ws n) 71)).alloc (QG (Ws d) 122)=w1 at b|-;refine gv K λw2 k2=>?_
 replace b:=b.keep k2;clear k2;go_wp2_with fail;refine gv K λr k3=>?_
 replace b:=b.keep k3;clear k3;have P:=b.new (Ws d) 122;have C:=P.get 0 rfl;dsimp only at C;unfold Blk at C;generalize F:bM uJ=rs at z e J;replace F:=Qh F;go_wp2_with (first
  |(refine nG rfl 122 _ rfl [(1,Qa (Ws O)),(2,Qa (Ws O))] rfl _ (z _) ?_)
  |(refine Qx rfl 122 _ _ rfl r.heap.size _ rfl rfl 122 _ C (by rw[J];exact QE) (by rw[J,ag]) (aZ _) ?_))
 replace b:WD w w.heap.size [(r.heap.size,Ws rs,122),(w.heap.size+1+1,Ws d,122),(w.heap.size+1,Ws n,71),(w.heap.size,Ws g,122)] ((r.alloc (QG (Ws d) 122)).setRow r.heap.size (Ws rs)):=P.over 0 rfl (Ws rs);clear P C z hz;generalize (r.alloc (QG (Ws d) 122)).setRow r.heap.size (Ws rs)=w4 at b|-;generalize r.heap.size=q at b|-;rw[<-F.out]at b;clear F e J;go_loopw [6] (λc wr=> ∃m:Nat,m<=253/\c=Qc .i64 (252-(m:Int))/\WD w w.heap.size [(q,Ws (bM (dw a n m)),122),(w.heap.size+1+1,Ws d,122),(w.heap.size+1,Ws n,71),(w.heap.size,Ws g,122)] wr) (λc _=>((intOf c)+1).toNat)
 case atStart=>exact⟨0,oo,rfl,b⟩
 case round=>
  clear b;obtain⟨m,hm,rfl,b⟩:=hrel;have l:=DM a n m;by_cases ax:m<253
  .have i:=Qh (p:=dw a n (m+1)=lI (kF n (252-m)) (dK (dw a n m) (dw a n m)) (dK (dK (dw a n m) (dw a n m)) a)) (by rw[dw])
   obtain⟨j,ad⟩:∃j:Nat,j=252-m:=⟨_,rfl⟩
   rw[<-ad]at i;have y:(252-(m:Int))=(j:Int):=oo
   rw[y];have ap:j<=252:=oo
   clear ad;replace y:=Qh y;have i3:(0:Int)<=(j:Int):=oo
   generalize Q:dw a n m=S at b l i;clear Q;have A:=Qr λs=>Pt S S s l l
   have u:=yV S S;generalize dK S S=D at A u i;have J2:=Qr λs=>Zl n j s hn oo
   generalize kF n j=t at J2 i;have B:=Qr (HP.out D u);have X:=yV D a;generalize dK D a=E at B X i;have x:=Qr λs=>Zc t D E s u X
   have Z:=Ff t E u;generalize lI t D E=G at x Z i;have e:=l.row;have lD:=u.row;have lG:=Z.row;generalize bM S=rS at b A e;generalize bM D=H at A B x lD;generalize bM E=rE at B x;generalize N:bM G=rG at x lG;replace N:=Qh N;have o:=Wz e;have I:=Wz lD;have ao:=Wz lG;clear l u X Z;have f:=b.gt 0 rfl;go_wp2_with (first
    |(refine ld r6 rfl rfl q rfl f o ?_))
   clear f;refine gv A λx1 k1=>?_
   replace b:=b.keep k1;clear k1;have f:=b.gt 0 rfl;go_wp2_with (first
    |(refine st r6 rfl rfl q rfl rfl f I o (aZ _) ?_))
   replace b:WD w w.heap.size [(q,Ws H,122),(w.heap.size+1+1,Ws d,122),(w.heap.size+1,Ws n,71),(w.heap.size,Ws g,122)] (x1.setRow q (Ws H)):=b.over 0 rfl (Ws H);clear f;generalize x1.setRow q (Ws H)=x2 at b|-;refine rgS [8] b.drew (λrd k=>?_);clear b;refine ar 0 17 t71 (λ_ h=>h.get 2 rfl) sn k ?_;refine ae 1 18 k ?_;refine ar 3 20 r6 (λ_ h=>h.get 0 rfl) I k ?_;simp only[qQ];refine ar 4 21 r6 (λ_ h=>h.get 0 rfl) I k ?_;refine ar 5 22 r6 (λ_ h=>h.get 3 rfl) sa k ?_;try simp only[qQ]
   refine Cf 1 [(2,19,Qc Qg (U t)),(6,23,Qa (Ws rE)),(7,24,Qa (Ws rG))] k ⟨vc J2,vc B,vc x⟩ (λn' ay T=>?_);clear k;simp only[kf,Qn,Qo,Qk,Qm,qQ];refine ltW 8 0 T QE ao I (aZ _) (λaz T=>?_);refine aC ?_;go_wp2;go_roundw
   case rel=>
    refine⟨m+1,oo,by have:=y.out;go_num,?_⟩;rw[show dw a n (m+1)=_ from i.out,N.out];exact T
   case measure=>have:=y.out;simp[intOf];try omega
  .have ah:m=253:=oo
   subst ah;have e:=l.row;generalize Q:dw a n 253=S at b e L;clear Q l;generalize W:bM S=rS at b e;replace W:=Qh W;have o:=Wz e;have f:=b.get 0 rfl;have M:=b.get 1 rfl;dsimp only at f M;unfold Blk at f M;go_wp2_with (first
    |(refine ld r6 rfl rfl q rfl f o ?_)
    |(refine Qx rfl 122 _ _ rfl (w.heap.size+1+1) _ rfl rfl 122 _ M (by rw[o];exact QE) (by rw[o,ag]) (aZ _) ?_))
   have ab:=b.over 1 rfl (Ws rS);refine Qy (v:=Qa (Ws rS)) ?_ rfl ⟨by rw[show R=_ from L.out,W.out],ab.below⟩;exact rr r6 rfl rfl (ab.get 1 rfl) o
def WO(w0:Qz)(base:Nat)(l:BL)(g cap:Nat)(L:List UInt8)(w:Qz):Prop:=WD w0 base l w/\OwnR w g cap L
theorem WO.keep{b w w':Qz}{a g cap:Nat}{l:BL}{L:Qu}(h:WO b a l g cap L w)(k:Below w.heap.size w w'):WO b a l g cap L w':=⟨h.1.keep k,h.2.below k h.2.lt⟩
theorem WO.drew{b w:Qz}{a g cap:Nat}{l:BL}{L:Qu}(h:WO b a l g cap L w):WO b a l g cap L w.drew:=⟨h.1.drew,h.2.drew⟩
theorem WO.get{c w:Qz}{a g cap:Nat}{l:BL}{L:Qu}(h:WO c a l g cap L w)(i:Nat){x:Nat×Array Value×Nat}(b:l[i]? =some x):Blk w x.1 x.2.1 x.2.2:=h.1.get i b
theorem acV(b:UInt8):Qi.wrap ((b.toNat:Int)*128)=((b<<<7).toNat:Int):=by
 rw[Qj,UInt8.toNat_shiftLeft];have:=b.toNat_lt;show _=(((b.toNat<<<((7:UInt8).toNat%8))%2^8:Nat):Int)
 rw[show (7:UInt8).toNat%8=7 from rfl,Nat.shiftLeft_eq];omega
theorem Zd(A B C I V M:Ql)(Y:Qu)(x y s v:UInt8)(w:Qz)(hy:Hid (Y.getD 31 0=y))(f1:Qi.wrap ((x.toNat:Int)*128)=(s.toNat:Int))(f2:bits BinOp.or Qi (y.toNat:Int) (s.toNat:Int)=(v.toNat:Int))(o:A.length=5)(t:B.length=5)(P:C.length=5)
  (H:Hid (Rv 112 #[Qa (Ws C)] (Qa (Ws I)))) (hI:I.length=5)
  (J:Hid (Rv 111 #[Qa (Ws B),Qa (Ws I)] (Qa (Ws V))))
  (L:Hid (Rv 58 #[Qa (Ws V)] (Qf ⟨Y.toArray⟩))) (Q:Y.length=32)
  (H4:Hid (Rv 111 #[Qa (Ws A),Qa (Ws I)] (Qa (Ws M))))
  (H5:Hid (Rv 177 #[Qa (Ws M)] (Qc Qi (x.toNat:Int)))):
  Rw 117 #[Qa (Ws (pt A B C))] w (Qf ⟨(Y.set 31 v).toArray⟩):=by
 have sA:=Wz o;have sB:=Wz t;have sC:=Wz P;have F:=Wz hI;have X:(Y.set 31 v).length=32:=by rw[List.length_set,Q]
 generalize E:(⟨(Y.set 31 v).toArray⟩:ByteArray)=RS;replace E:=Qh E;have a:=(WD.start (w:=w)).new (Ws (pt A B C)) 122;have c:=ptZ (a.get 0 rfl) o t;dsimp only at c;have sP:=tr o t P;generalize r:Ws (pt A B C)=PA at sP a c|-;replace r:=Qh r;go_enter Tryz.func117,Tryz.ntmps117;go_wp2_with (first
  |(refine nF rfl 69 _ rfl w.heap.size 10 rfl (Ws C) _ c QB rfl (by rw[sC];exact QF) ?_))
 clear c;generalize w.alloc (QG PA 122)=w1 at a|-;rw[<-r.out]at a|-;clear sP r;refine gv H λf k2=>?_
 replace a:=a.keep k2;clear k2;have u:=a.new #[Qc Qg 0,Qc Qg 0,Qc Qg 0,Qc Qg 0,Qc Qg 0] 69;have m:=u.get 0 rfl;dsimp only at m;unfold Blk at m;replace a:WD w w.heap.size [(f.heap.size,Ws I,69),(w.heap.size,Ws (pt A B C),122)] ((f.alloc (QG #[Qc Qg 0,Qc Qg 0,Qc Qg 0,Qc Qg 0,Qc Qg 0] 69)).setRow f.heap.size (Ws I)):=u.over 0 rfl (Ws I);have c:=ptY (a.get 1 rfl) o;have l:=a.get 0 rfl;dsimp only at c l;unfold Blk at l;go_wp2_with (first
  |(refine st t69 rfl rfl f.heap.size rfl rfl m F rfl (aZ _) ?_)
  |(refine nF rfl 69 _ rfl w.heap.size 5 rfl (Ws B) _ c QB rfl (by rw[sB];exact QF) ?_)
  |(refine ld t69 rfl rfl f.heap.size rfl l F ?_))
 clear u m c l;generalize (f.alloc (QG #[Qc Qg 0,Qc Qg 0,Qc Qg 0,Qc Qg 0,Qc Qg 0] 69)).setRow f.heap.size (Ws I)=w3 at a|-;generalize f.heap.size=q at a|-;refine gv J λw4 k4=>?_
 replace a:=a.keep k4;clear k4;go_wp2_with fail;refine gv L λG k5=>?_
 replace a:=a.keep k5;clear k5 H J L;have ab:(⟨Y.toArray⟩:ByteArray).size=32:=Q;have T:(⟨Y.toArray⟩:ByteArray).data.toList=Y:=rfl;generalize (⟨Y.toArray⟩:ByteArray)=ys at ab T|-;obtain⟨cap,w6,R,g,N⟩:=bytesOf ys w.heap.size G a.1.2.2.1;replace g:=g.at;rw[T]at g;rw[ab]at R;have z:WO w w.heap.size [(q,Ws I,69),(w.heap.size,Ws (pt A B C),122)] G.heap.size cap Y w6:=⟨a.keep N,g⟩;have W:=a.1.2.2.1;clear a g N;go_wp2_with fail;clear R;generalize G.heap.size=gg at z W|-;refine bu (S:=WO w w.heap.size [(q,Ws I,69),(w.heap.size,Ws (pt A B C),122)] gg cap Y) (ls:=[11]) kr ?_;have b:=z.drew;clear z;generalize World.drew w6=bd at b|-;refine ae 0 14 b ?_;refine ae 1 15 b ?_;refine ac 2 16 (v:=Qc Qi (y.toNat:Int)) b ?_ ?_
 ·(intro wx j;have k:=j.2.cell 31 oo;rw[hy.out]at k;clear j;go_simp;try (with_reducible rfl))
 simp only[qQ];refine ae 3 17 b ?_;refine ac 4 18 (v:=Qa (Ws A)) b ?_ ?_
 .exact λwx j=>m8 69 _ rfl w.heap.size 0 rfl (Ws A) _ (ptX (j.get 1 rfl)) QB rfl (by rw[sA];exact QF)
 refine ar 5 19 t69 (λ_ h=>h.get 0 rfl) F b ?_;simp only[qQ];refine aF 6 λK d=>?_
 go_simp;go_wp2_with (go_at_call 111;refine gv H4 λah i=>?_);have D:=b.keep i;refine d.out _ _ D ?_;try simp only[qQ]
 clear d K i b;refine aF 7 λK d=>?_
 go_simp;go_wp2_with (go_at_call 177;refine gv H5 λad i=>?_);have e:=D.keep i;refine d.out _ _ e ?_;try simp only[qQ]
 clear d K i D;have o2:=e.2.set 31 v;have k:=e.2.cell 31 oo;have ag:=e.2.frozen 31 oo;rw[hy.out]at k;have O:=e.1.below.setCell (p:=⟨gg,31,none⟩) W (Qc Qi (v.toNat:Int));have Z:=lW (n:=32) o2 X.symm;rw[E.out]at Z;refine ae 8 22 (v:=Qc Qi (s.toNat:Int)) e ?_;simp only[qQ];refine ae 9 23 (v:=Qc Qi (v.toNat:Int)) e ?_;try simp only[qQ]
 refine ae 10 24 e ?_;try simp only[qQ]
 refine eF 11 λK d=>?_
 go_simp;refine d.out _ _ ?_;clear d K f1 f2 k ag o2 X;refine aC ?_;generalize World.setCell ad _ _=wz at Z O|-;go_wp2;go_ret;exact⟨rfl,O⟩
theorem FJ(a:Cv_Pn)(w:Qz)(c:Cv_Ok a):
  Rw 117 #[Qa (Ws (bM a))] w (Qf ⟨(bJ a).toArray⟩):=by
 have e:=aw a.x (bN a.z);have f:=aw a.y (bN a.z);have d:=tP a.z;have:=Zd a.x a.y a.z (bN a.z) (aa a.y (bN a.z)) (aa a.x (bN a.z)) (nQ a) (uv a) _ _ _ w rfl (acV _) (KB _ _) c.1 c.2.1 c.2.2 (λb=>Fe _ b c.2.2) d (λb=>eE _ _ b c.2.1 d) (λb=>Lh _ b f) (tl a) (λb=>eE _ _ b c.1 d) (λb=>GD _ b e);unfold bJ;exact this
theorem Dh{P:Program}(w:World)(d:Nat)(e:TypeId)(he:P.underlying e=some (.int .u64))(X Y:List (BitVec 64)):∀l:List Nat,(∀i∈l,i<X.length/\i<Y.length)->
  (Op.eqItems (d+1) e 1 (Ws X) (Ws Y) l).run P w=.ok (l.all λi=>X.getD i 0==Y.getD i 0) w
 | [],_=>by simp[Op.eqItems]
 |i::l,h=>by
  obtain⟨h1,h2⟩:=h i ss;have px:(part e (Ws X) (i*1)).run P w=.ok (.int .u64 (U (X.getD i 0))) w:=by
   rw[Nat.mul_one];have:=cQ X i h1;simp[part,isAgg,run_underlying he,this]
  have py:(part e (Ws Y) (i*1)).run P w=.ok (.int .u64 (U (Y.getD i 0))) w:=by
   rw[Nat.mul_one];have:=cQ Y i h2;simp[part,isAgg,run_underlying he,this]
  have pe:(Op.equalIn (d+1) e (.int .u64 (U (X.getD i 0))) (.int .u64 (U (Y.getD i 0)))).run P w=.ok (X.getD i 0==Y.getD i 0) w:=by
   rw[run_equalIn_int w d e .u64 .u64 _ _ he];congr 1
   rw[Bool.eq_iff_iff];simp only[beq_iff_eq];constructor
   .intro hh;apply BitVec.eq_of_toNat_eq;unfold U at hh;omega
   .intro hh;rw[hh]
  have ih:=Dh w d e he X Y l (λj hj=>h j (by simp[hj]));simp only[Op.eqItems,Sem.run_bind,px,py,pe,Result.andThen_ok,List.all_cons];cases hb:(X.getD i 0==Y.getD i 0)
  .simp
  .simpa using ih
theorem Tb(X Y:List (BitVec 64))(hX:X.length=5)(hY:Y.length=5)(w:World):
  (Op.equalIn 10000 69 (.agg (Ws X)) (.agg (Ws Y))).run Tryz.prog w=.ok (decide (X=Y)) w:=by
 have hs:(Tryz.prog.info? 67).isSome=true:=kr
 obtain⟨i,hi⟩:=Option.isSome_iff_exists.1 hs;rw[run_equalIn_array w 9999 (e:=67) (n:=5) (Ws X) (Ws Y) Tryz.underlying69 hi];rw[show Tryz.prog.cellsOf 67=1 from kr,Dh w 9998 67 Tryz.underlying67 X Y (List.range 5) (λi hi=>by simp at hi;omega)];congr 1
 obtain⟨x0,x1,x2,x3,x4,rfl⟩:=bH X hX;obtain⟨y0,y1,y2,y3,y4,rfl⟩:=bH Y hY;rw[Bool.eq_iff_iff];simp[List.range,List.range.loop]
theorem C7{X Y:Ql}(a:X.length=5)(b:Y.length=5)(h:X=Y)(w:Qz):(QH 10000 69 (Qa (Ws X)) (Qa (Ws Y))).run QC w=.ok true w:=by
 rw[Tb X Y a b,decide_eq_true h]
theorem GE{X Y:Ql}(a:X.length=5)(b:Y.length=5)(h:¬X=Y)(w:Qz):(QH 10000 69 (Qa (Ws X)) (Qa (Ws Y))).run QC w=.ok false w:=by
 rw[Tb X Y a b,decide_eq_false h]
theorem aaU(a:Ql)(w:Qz)(ha:a.length=5)(O e s r F G S1 S2:Ql)
  (S:Hid (Rv 167 #[Qa (Ws a),Qc .i64 251] (Qa (Ws O))))
  (T:Hid (Rv 163 #[Qa (Ws O)] (Qa (Ws e)))) (ag:e.length=5)
  (M:Hid (Rv 163 #[Qa (Ws e)] (Qa (Ws S1))))
  (N:Hid (Rv 125 #[Qa (Ws S1)] (Qa (Ws F))))
  (E:Hid (Rv 125 #[Qa (Ws a)] (Qa (Ws r))))
  (W:Hid (Rv 111 #[Qa (Ws e),Qa (Ws lK)] (Qa (Ws s)))) (ah:s.length=5)
  (X:Hid (Rv 163 #[Qa (Ws s)] (Qa (Ws S2))))
  (Z:Hid (Rv 125 #[Qa (Ws S2)] (Qa (Ws G))))
  (H:r.length=5) (P:F.length=5) (ab:G.length=5):
  Rw 228 #[Qa (Ws a)] w (if F=r then Qe #[Qa (Ws e),Qd true]else if G=r then Qe #[Qa (Ws s),Qd true]else Qe #[Qa (Ws [0,0,0,0,0]),Qd false]):=by
 have H9:=Qr adq;generalize lK=IM at W H9;have D:=Wz ha;have p:=Wz ag;have C:=Wz ah;have d:WD w w.heap.size [(w.heap.size+1,#[Qc Qg 0,Qc Qg 0,Qc Qg 0,Qc Qg 0,Qc Qg 0],69),(w.heap.size,Ws a,69)] ((w.alloc (QG (Ws a) 69)).alloc (QG #[Qc Qg 0,Qc Qg 0,Qc Qg 0,Qc Qg 0,Qc Qg 0] 69)):=by
  have j:=(WD.start (w:=w)).new (Ws a) 69;have h2:=j.new #[Qc Qg 0,Qc Qg 0,Qc Qg 0,Qc Qg 0,Qc Qg 0] 69;rw[show (w.alloc (QG (Ws a) 69)).heap.size=w.heap.size+1 by simp]at h2;exact h2
 have i:=d.gt 1 rfl;generalize I:(if F=r then Qe #[Qa (Ws e),Qd true]else if G=r then Qe #[Qa (Ws s),Qd true]else Qe #[Qa (Ws [0,0,0,0,0]),Qd false])=V;replace I:=Qh I;go_enter Tryz.func228,Tryz.ntmps228;go_wp2_with (first
  |(refine ld t69 rfl rfl w.heap.size rfl i D ?_))
 clear i;generalize (w.alloc (QG (Ws a) 69)).alloc (QG #[Qc Qg 0,Qc Qg 0,Qc Qg 0,Qc Qg 0,Qc Qg 0] 69)=w1 at d|-;refine gv S λw2 k2=>?_
 replace d:=d.keep k2;clear k2;go_wp2_with fail;refine gv T λB k3=>?_
 replace d:=d.keep k3;clear k3 S T;have Q:=d.new #[Qc Qg 0,Qc Qg 0,Qc Qg 0,Qc Qg 0,Qc Qg 0] 69;have L:=Q.get 0 rfl;dsimp only at L;unfold Blk at L;go_wp2_with (first
  |(refine st t69 rfl rfl B.heap.size rfl rfl L p rfl (aZ _) ?_))
 replace d:WD w w.heap.size [(B.heap.size,Ws e,69),(w.heap.size+1,#[Qc Qg 0,Qc Qg 0,Qc Qg 0,Qc Qg 0,Qc Qg 0],69),(w.heap.size,Ws a,69)] ((B.alloc (QG #[Qc Qg 0,Qc Qg 0,Qc Qg 0,Qc Qg 0,Qc Qg 0] 69)).setRow B.heap.size (Ws e)):=Q.over 0 rfl (Ws e);clear Q L;generalize (B.alloc (QG #[Qc Qg 0,Qc Qg 0,Qc Qg 0,Qc Qg 0,Qc Qg 0] 69)).setRow B.heap.size (Ws e)=w4 at d|-;generalize B.heap.size=q at d|-;by_cases j:F=r
 .replace j:=Qh j;refine rgS [] d.drew (λad l=>?_);clear d;refine ar 0 8 t69 (λ_ h=>h.get 0 rfl) p l ?_;refine ar 3 11 t69 (λ_ h=>h.get 2 rfl) D l ?_;try simp only[qQ]
  refine aF 1 λK b=>?_
  go_simp;go_wp2_with (go_at_call 163;refine gv M λan c=>?_);have z:=l.keep c;refine b.out _ _ z ?_;try simp only[qQ]
  clear b K c l;refine aF 2 λK b=>?_
  go_simp;go_wp2_with (go_at_call 125;refine gv N λao c=>?_);have A:=z.keep c;refine b.out _ _ A ?_;try simp only[qQ]
  clear b K c z;refine aF 4 λK b=>?_
  go_simp;go_wp2_with (go_at_call 125;refine gv E λap c=>?_);have m:=A.keep c;refine b.out _ _ m ?_;try simp only[qQ]
  clear b K c A;have o:=C7 P H j.out;refine ae 5 13 (v:=Qd false) m ?_;simp only[qQ];refine aC ?_;clear o;go_wp2_with fail;refine rgS [] m.drew (λbd u=>?_);clear m;refine ar 0 17 t69 (λ_ h=>h.get 0 rfl) p u ?_;refine ar 3 20 t69 (λ_ h=>h.get 2 rfl) D u ?_;try simp only[qQ]
  refine aF 1 λK b=>?_
  go_simp;go_wp2_with (go_at_call 163;refine gv M λax c=>?_);have R:=u.keep c;refine b.out _ _ R ?_;try simp only[qQ]
  clear b K c u;refine aF 2 λK b=>?_
  go_simp;go_wp2_with (go_at_call 125;refine gv N λay c=>?_);have g:=R.keep c;refine b.out _ _ g ?_;try simp only[qQ]
  clear b K c R;refine aF 4 λK b=>?_
  go_simp;go_wp2_with (go_at_call 125;refine gv E λaz c=>?_);have J:=g.keep c;refine b.out _ _ J ?_;try simp only[qQ]
  clear b K c g;have o:=C7 P H j.out;refine ae 5 22 (v:=Qd false) J ?_;simp only[qQ];refine aC ?_;clear o;have i:=J.get 0 rfl;have k:=J.get 1 rfl;dsimp only at i k;unfold Blk at i k;go_wp2_with (first
   |(refine ld t69 rfl rfl q rfl i p ?_)
   |(refine st t69 rfl rfl (w.heap.size+1) rfl rfl k p rfl (aZ _) ?_))
  have t:=J.over 1 rfl (Ws e);refine Qy (v:=Qe #[Qa (Ws e),Qd true]) ?_ rfl ⟨by rw[<-show _=V from I.out,if_pos j.out],t.below⟩;exact bj rfl _ _ (w.heap.size+1) 69 _ (0,0) _ (Qd true) rfl rfl (t.get 1 rfl) QB rfl (by rw[p];exact QF)
 .refine rgS [] d.drew (λcd l=>?_);clear d;refine ar 0 8 t69 (λ_ h=>h.get 0 rfl) p l ?_;refine ar 3 11 t69 (λ_ h=>h.get 2 rfl) D l ?_;try simp only[qQ]
  refine aF 1 λK b=>?_
  go_simp;go_wp2_with (go_at_call 163;refine gv M λa0 c=>?_);have z:=l.keep c;refine b.out _ _ z ?_;try simp only[qQ]
  clear b K c l;refine aF 2 λK b=>?_
  go_simp;go_wp2_with (go_at_call 125;refine gv N λa1 c=>?_);have A:=z.keep c;refine b.out _ _ A ?_;try simp only[qQ]
  clear b K c z;refine aF 4 λK b=>?_
  go_simp;go_wp2_with (go_at_call 125;refine gv E λa2 c=>?_);have m:=A.keep c;refine b.out _ _ m ?_;try simp only[qQ]
  clear b K c A;have o:=GE P H j;refine ae 5 13 (v:=Qd true) m ?_;simp only[qQ];refine aC ?_;clear o;go_wp2_with fail;refine rgS [3] m.drew (λdd u=>?_);clear m;refine ar 0 14 t69 (λ_ h=>h.get 0 rfl) p u ?_;try simp only[qQ]
  refine Cf 1 [(1,15,Qa (Ws IM)),(2,16,Qa (Ws s))] u ⟨vc H9,vc W⟩ (λn' a3 g=>?_);clear u;simp only[kf,Qn,Qo,Qk,Qm,qQ];refine ltW 3 0 g QF C p (aZ _) (λa4 g=>?_);refine aC ?_;go_wp2_with fail;by_cases h2:G=r
  .replace h2:=Qh h2;refine rgS [] g.drew (λed n=>?_);clear g;refine ar 0 17 t69 (λ_ h=>h.get 0 rfl) C n ?_;refine ar 3 20 t69 (λ_ h=>h.get 2 rfl) D n ?_;try simp only[qQ]
   refine aF 1 λK b=>?_
   go_simp;go_wp2_with (go_at_call 163;refine gv X λa5 c=>?_);have x:=n.keep c;refine b.out _ _ x ?_;try simp only[qQ]
   clear b K c n;refine aF 2 λK b=>?_
   go_simp;go_wp2_with (go_at_call 125;refine gv Z λa6 c=>?_);have y:=x.keep c;refine b.out _ _ y ?_;try simp only[qQ]
   clear b K c x;refine aF 4 λK b=>?_
   go_simp;go_wp2_with (go_at_call 125;refine gv E λa7 c=>?_);have f:=y.keep c;refine b.out _ _ f ?_;try simp only[qQ]
   clear b K c y;have o:=C7 ab H h2.out;refine ae 5 22 (v:=Qd false) f ?_;simp only[qQ];refine aC ?_;clear o;have i:=f.get 0 rfl;have k:=f.get 1 rfl;dsimp only at i k;unfold Blk at i k;go_wp2_with (first
    |(refine ld t69 rfl rfl q rfl i C ?_)
    |(refine st t69 rfl rfl (w.heap.size+1) rfl rfl k C rfl (aZ _) ?_))
   have t:=f.over 1 rfl (Ws s);refine Qy (v:=Qe #[Qa (Ws s),Qd true]) ?_ rfl ⟨by rw[<-show _=V from I.out,if_neg j,if_pos h2.out],t.below⟩;exact bj rfl _ _ (w.heap.size+1) 69 _ (0,0) _ (Qd true) rfl rfl (t.get 1 rfl) QB rfl (by rw[C];exact QF)
  .refine rgS [] g.drew (λfd n=>?_);clear g;refine ar 0 17 t69 (λ_ h=>h.get 0 rfl) C n ?_;refine ar 3 20 t69 (λ_ h=>h.get 2 rfl) D n ?_;try simp only[qQ]
   refine aF 1 λK b=>?_
   go_simp;go_wp2_with (go_at_call 163;refine gv X λa8 c=>?_);have x:=n.keep c;refine b.out _ _ x ?_;try simp only[qQ]
   clear b K c n;refine aF 2 λK b=>?_
   go_simp;go_wp2_with (go_at_call 125;refine gv Z λa9 c=>?_);have y:=x.keep c;refine b.out _ _ y ?_;try simp only[qQ]
   clear b K c x;refine aF 4 λK b=>?_
   go_simp;go_wp2_with (go_at_call 125;refine gv E λba c=>?_);have f:=y.keep c;refine b.out _ _ f ?_;try simp only[qQ]
   clear b K c y;have o:=GE ab H h2;refine ae 5 22 (v:=Qd true) f ?_;simp only[qQ];refine aC ?_;clear o;have k:=f.gt 1 rfl;go_wp2_with (first
    |(refine Qx rfl 69 _ _ rfl (w.heap.size+1) #[Qc Qg 0,Qc Qg 0,Qc Qg 0,Qc Qg 0,Qc Qg 0] rfl rfl 69 _ k QF rfl (aZ [0,0,0,0,0]) ?_))
   have t:=f.over 1 rfl #[Qc Qg 0,Qc Qg 0,Qc Qg 0,Qc Qg 0,Qc Qg 0];refine Qy (v:=Qe #[Qa (Ws [0,0,0,0,0]),Qd false]) ?_ rfl ⟨by rw[<-show _=V from I.out,if_neg j,if_neg h2],t.below⟩;exact bj rfl _ _ (w.heap.size+1) 69 _ (0,0) _ (Qd false) rfl rfl (t.get 1 rfl) QB rfl QF
theorem ach(a:Ql)(w:Qz)(d:a.length=5):
  Rw 228 #[Qa (Ws a)] w (Qe #[Qa (Ws (ef a).1),Qd (ef a).2]):=by
 have k:=xd a d 251 251;have f:=Ap a;have j:=aw (bL a) lK;have i:=aaU a w d (iS a 251 251) (bL a) (aa (bL a) lK) (aW a) (aW (aa (bL a) (bL a))) (aW (aa (aa (bL a) lK) (aa (bL a) lK))) (aa (bL a) (bL a)) (aa (aa (bL a) lK) (aa (bL a) lK))
  (λb=>Pe a d 251 251 b oo oo oo) (λb=>by unfold bL;exact oY _ b k) f (λb=>oY _ b f) (λb=>zN _ b (aw _ _)) (λb=>zN a b d)
  (λb=>eE _ _ b f rfl) j (λb=>oY _ b j) (λb=>zN _ b (aw _ _)) (by rw[oV,d]) (by rw[oV,aw]) (by rw[oV,aw])
 have e:(if aW (aa (bL a) (bL a))=aW a then Qe #[Qa (Ws (bL a)),Qd true]else if aW (aa (aa (bL a) lK) (aa (bL a) lK))=aW a then Qe #[Qa (Ws (aa (bL a) lK)),Qd true]else Qe #[Qa (Ws [0,0,0,0,0]),Qd false])=Qe #[Qa (Ws (ef a).1),Qd (ef a).2]:=by
  unfold ef eK;generalize aa (bL a) lK=h;generalize bL a=g;by_cases c:aW (aa g g)=aW a
  .rw[if_pos c,if_pos c,if_pos c]
  .rw[if_neg c,if_neg c];by_cases h2:aW (aa h h)=aW a
   .rw[if_pos h2,if_pos h2]
   .rw[if_neg h2,if_neg h2];unfold oU;with_reducible rfl
 rw[e]at i;exact i
theorem G6{a b:Qb}(h:¬a=b):(a.toList==b.toList)=false:=by
 cases d:a.toList==b.toList with
 |false=>rfl
 |true=>
  have c:=eq_of_beq d;rw[ByteArray.toList_eq,ByteArray.toList_eq]at c;exact absurd (ByteArray.ext (Array.toList_inj.mp c)) h
theorem acQ(s:Qb)(Y o c M1 FA FY FP IV B d n:Ql)(C:Bool)(E y ad:UInt8)(W X:Qb)(V:Value)(w:Qz)
  (a8:∀r:Qz,(Instr.index 9 (Qf s) (Qc .i64 31)).run QC r=.ok (Qc Qi (ad.toNat:Int)) r) (a9:(ad.toNat:Int)/128=(y.toNat:Int))
  (H1:Hid (Rv 57 #[Qf s] (Qa (Ws Y))))
  (H2:Hid (Rv 163 #[Qa (Ws Y)] (Qa (Ws o))))
  (T:Hid (Rv 173 #[] (Qa (Ws c))))
  (H4:Hid (Rv 162 #[Qa (Ws o),Qa (Ws c)] (Qa (Ws M1))))
  (H5:Hid (Rv 213 #[] (Qa (Ws FA))))
  (H6:Hid (Rv 111 #[Qa (Ws FA),Qa (Ws o)] (Qa (Ws FY))))
  (H7:Hid (Rv 161 #[Qa (Ws FY),Qa (Ws c)] (Qa (Ws FP))))
  (H8:Hid (Rv 112 #[Qa (Ws FP)] (Qa (Ws IV))))
  (H9:Hid (Rv 111 #[Qa (Ws M1),Qa (Ws IV)] (Qa (Ws B))))
  (J1:Hid (Rv 228 #[Qa (Ws B)] (Qe #[Qa (Ws d),Qd C])))
  (J2:Hid (Rv 177 #[Qa (Ws d)] (Qc Qi (E.toNat:Int))))
  (J3:Hid (Rv 229 #[Qa (Ws d)] (Qa (Ws n))))
  (J4:Hid (Rv 117 #[Qa (Ws (pt d Y c))] (Qf W)))
  (J5:Hid (Rv 117 #[Qa (Ws (pt n Y c))] (Qf X)))
  (O:Y.length=5) (a1:o.length=5) (Z:c.length=5) (a0:B.length=5) (ah:d.length=5) (ag:n.length=5)
  (v0:Hid (C=false->V=Qe #[Qa (Ws Z15),Qd false])) (v1:Hid (C=true->E=y->W=s->V=Qe #[Qa (Ws (pt d Y c)),Qd true])) (v2:Hid (C=true->E=y-> ¬W=s->V=Qe #[Qa (Ws Z15),Qd false]))
  (v3:Hid (C=true-> ¬E=y->X=s->V=Qe #[Qa (Ws (pt n Y c)),Qd true])) (v4:Hid (C=true-> ¬E=y-> ¬X=s->V=Qe #[Qa (Ws Z15),Qd false])):
  Calls QC 188 #[Qf s] w λe w'=>e=.returned V/\Below w.heap.size w w':=by
 have hz:=yZ;have H:=NW;have sZ:=wJ;have B1:=Qh (Fw d Y c ah O Z);have B2:=Qh (Fw n Y c ag O Z);have ap:=pm ah O Z;have ax:=pm ag O Z;generalize pt d Y c=P1 at B1 ap J4 v1;generalize pt n Y c=P2 at B2 ax J5 v3;generalize Z15=i at hz sZ H v0 v2 v4;have q:=Wz sZ;have J:=Wz ap;have L:=Wz ax;have sY:=Wz O;have an:=Wz a1;have az:=Wz a0;have F:=Wz ah;have ay:=Wz ag;replace H:=Qh H;have f:=(WD.start (w:=w)).new (Ws i) 122;go_enter Tryz.func188,Tryz.ntmps188;go_wp2_with fail;generalize w.alloc (QG (Ws i) 122)=w1 at f|-;refine gv H1 λA k2=>?_
 replace f:=f.keep k2;clear k2;have m:=f.new #[Qc Qg 0,Qc Qg 0,Qc Qg 0,Qc Qg 0,Qc Qg 0] 69;have j:=m.get 0 rfl;dsimp only at j;unfold Blk at j;replace f:WD w w.heap.size [(A.heap.size,Ws Y,69),(w.heap.size,Ws i,122)] ((A.alloc (QG #[Qc Qg 0,Qc Qg 0,Qc Qg 0,Qc Qg 0,Qc Qg 0] 69)).setRow A.heap.size (Ws Y)):=m.over 0 rfl (Ws Y);have b:=f.gt 0 rfl;go_wp2_with (first
  |(refine st t69 rfl rfl A.heap.size rfl rfl j sY rfl (aZ _) ?_)
  |(refine ld t69 rfl rfl A.heap.size rfl b sY ?_))
 clear m j b;generalize (A.alloc (QG #[Qc Qg 0,Qc Qg 0,Qc Qg 0,Qc Qg 0,Qc Qg 0] 69)).setRow A.heap.size (Ws Y)=w3 at f|-;generalize A.heap.size=q4 at f|-;refine gv H2 λG k4=>?_
 replace f:=f.keep k4;clear k4;have m:=f.new #[Qc Qg 0,Qc Qg 0,Qc Qg 0,Qc Qg 0,Qc Qg 0] 69;have j:=m.get 0 rfl;dsimp only at j;unfold Blk at j;go_wp2_with (first
  |(refine st t69 rfl rfl G.heap.size rfl rfl j an rfl (aZ _) ?_))
 replace f:WD w w.heap.size [(G.heap.size,Ws o,69),(q4,Ws Y,69),(w.heap.size,Ws i,122)] ((G.alloc (QG #[Qc Qg 0,Qc Qg 0,Qc Qg 0,Qc Qg 0,Qc Qg 0] 69)).setRow G.heap.size (Ws o)):=m.over 0 rfl (Ws o);clear m j;generalize (G.alloc (QG #[Qc Qg 0,Qc Qg 0,Qc Qg 0,Qc Qg 0,Qc Qg 0] 69)).setRow G.heap.size (Ws o)=w5 at f|-;generalize G.heap.size=q5 at f|-;refine rgS [11] f.drew (λcd ab=>?_);clear f;refine ar 0 14 t69 (λ_ h=>h.get 0 rfl) an ab ?_;refine ar 4 18 t69 (λ_ h=>h.get 0 rfl) an ab ?_;try simp only[qQ]
 refine yh 1 [(1,15,Qa (Ws c)),(2,16,Qa (Ws M1)),(3,17,Qa (Ws FA)),(5,19,Qa (Ws FY)),(6,20,Qa (Ws c)),(7,21,Qa (Ws FP)),(8,22,Qa (Ws IV)),(9,23,Qa (Ws B))] 10 6 #[Qc Qg 0,Qc Qg 0,Qc Qg 0,Qc Qg 0,Qc Qg 0] 69 ab ⟨vc T,vc H4,vc H5,vc H6,vc T,vc H7,vc H8,vc H9⟩ (λn' q6 cx a=>?_);clear ab;simp only[kf,Qn,Qo,Qp,Qq,Qk,Qm,qQ];refine ltW 11 0 a QF az rfl (aZ _) (λa4 a=>?_);refine aC ?_;have b:=a.gt 0 rfl;go_wp2_with (first
  |(refine ld t69 rfl rfl q6 rfl b az ?_))
 clear b;refine gv J1 λp k6=>?_
 replace a:=a.keep k6;clear k6 H1 H2 H4 H5 H6 H7 H8 H9;have m:=a.new #[Qc Qg 0,Qc Qg 0,Qc Qg 0,Qc Qg 0,Qc Qg 0] 69;have j:=m.get 0 rfl;dsimp only at j;unfold Blk at j;cases C with
 |false=>
  have ao:WD w (w.heap.size) [(p.heap.size,Ws d,69),(q6,Ws B,69),(q5,Ws o,69),(q4,Ws Y,69),(w.heap.size,Ws i,122)] ((p.alloc (QG #[Qc Qg 0,Qc Qg 0,Qc Qg 0,Qc Qg 0,Qc Qg 0] 69)).setRow p.heap.size (Ws d)):=m.over 0 rfl (Ws d);have b:=ao.gt 4 rfl;go_wp2_with (first
   |(refine st t69 rfl rfl p.heap.size rfl rfl j F rfl (aZ _) ?_)
   |(refine nG rfl 122 _ rfl [] rfl _ (H.out _) ?_)
   |(refine Qx rfl 122 _ _ rfl w.heap.size _ rfl rfl 122 _ b (by rw[q];exact QE) rfl (aZ _) ?_))
  have k:=ao.over 4 rfl (Ws i);refine Qy (v:=Qe #[Qa (Ws i),Qd false]) ?_ rfl ⟨by rw[v0.out trivial],k.below⟩;exact bj rfl _ _ w.heap.size 122 _ (0,0) _ (Qd false) rfl rfl (k.get 4 rfl) QD rfl (by rw[q];exact QE)
 |true=>
  go_wp2_with (first
   |(refine st t69 rfl rfl p.heap.size rfl rfl j F rfl (aZ _) ?_))
  replace a:WD w (w.heap.size) [(p.heap.size,Ws d,69),(q6,Ws B,69),(q5,Ws o,69),(q4,Ws Y,69),(w.heap.size,Ws i,122)] ((p.alloc (QG #[Qc Qg 0,Qc Qg 0,Qc Qg 0,Qc Qg 0,Qc Qg 0] 69)).setRow p.heap.size (Ws d)):=m.over 0 rfl (Ws d);clear m j;generalize (p.alloc (QG #[Qc Qg 0,Qc Qg 0,Qc Qg 0,Qc Qg 0,Qc Qg 0] 69)).setRow p.heap.size (Ws d)=w7 at a|-;generalize p.heap.size=R at a|-;by_cases z:E=y
  .have I:=Qh z;clear z;refine rgS [] a.drew (λed l=>?_);clear a;refine ar 0 32 t69 (λ_ h=>h.get 0 rfl) F l ?_;refine ae 2 34 l ?_;refine ac 3 35 (v:=Qc Qi (ad.toNat:Int)) l ?_ ?_
   .exact λr _=>by go_simp;try (with_reducible rfl)
   simp only[qQ];refine ac 4 36 (v:=Qc Qi (y.toNat:Int)) l ?_ ?_
   .exact λr _=>by go_simp;try (with_reducible rfl)
   try simp only[qQ]
   refine aF 1 λK M=>?_
   go_simp;go_wp2_with (go_at_call 177;refine gv J2 λa5 P=>?_);have g:=l.keep P;refine M.out _ _ g ?_;try simp only[qQ]
   clear M K P l;have z:=I.out;rw[z];refine ae 5 37 (v:=Qd false) g ?_;simp only[qQ];refine aC ?_;clear z;go_wp2_with fail;refine rgS [5] g.drew (λgd x=>?_);clear g;refine ar 0 40 t69 (λ_ h=>h.get 0 rfl) F x ?_;refine ar 1 41 t69 (λ_ h=>h.get 3 rfl) sY x ?_;try simp only[qQ]
   refine yh 1 [(2,42,Qa (Ws c)),(3,43,Qa (Ws P1))] 4 9 (Ws i) 122 x ⟨vc T,vm (λu r=>uO 122 _ rfl [(0,Qa (Ws d)),(1,Qa (Ws Y)),(2,Qa (Ws c))] kr _ (B1.out r))⟩ (λn' S gx a=>?_);clear x;simp only[kf,Qn,Qo,Qp,Qq,Qk,Qm,qQ];refine ltW 5 0 a QE J q (aZ _) (λa7 a=>?_);refine aC ?_;have b:=a.gt 0 rfl;go_wp2_with (first
    |(refine ld r6 rfl rfl S rfl b J ?_))
   clear b;refine gv J4 λw9 Q=>?_
   replace a:=a.keep Q;clear Q;by_cases t:W=s
   .have N:=Qh t;clear t;have b:=a.get 0 rfl;have D:=a.get 5 rfl;dsimp only at b D;unfold Blk at b D;rw[N.out];go_wp2_with (first
     |(refine ld r6 rfl rfl S rfl b J ?_)
     |(refine Qx rfl 122 _ _ rfl w.heap.size _ rfl rfl 122 _ D (by rw[J];exact QE) (by rw[J,q]) (aZ _) ?_))
    have k:=a.over 5 rfl (Ws P1);refine Qy (v:=Qe #[Qa (Ws P1),Qd true]) ?_ rfl ⟨by rw[v1.out trivial I.out N.out],k.below⟩;exact bj rfl _ _ w.heap.size 122 _ (0,0) _ (Qd true) rfl rfl (k.get 5 rfl) QD rfl (by rw[J];exact QE)
   .have a2:=G6 t;have b:=a.gt 5 rfl;go_wp2_with (first
     |(refine nG rfl 122 _ rfl [] rfl _ (H.out _) ?_)
     |(refine Qx rfl 122 _ _ rfl w.heap.size _ rfl rfl 122 _ b (by rw[q];exact QE) rfl (aZ _) ?_))
    have k:=a.over 5 rfl (Ws i);refine Qy (v:=Qe #[Qa (Ws i),Qd false]) ?_ rfl ⟨by rw[v2.out trivial I.out t],k.below⟩;exact bj rfl _ _ w.heap.size 122 _ (0,0) _ (Qd false) rfl rfl (k.get 5 rfl) QD rfl (by rw[q];exact QE)
  .have I:=Qh z;have a3:¬(E.toNat:Int)=(y.toNat:Int):=λe=>z (UInt8.toNat.inj oo)
   clear z;refine rgS [] a.drew (λfd l=>?_);clear a;refine ar 0 32 t69 (λ_ h=>h.get 0 rfl) F l ?_;refine ae 2 34 l ?_;refine ac 3 35 (v:=Qc Qi (ad.toNat:Int)) l ?_ ?_
   .exact λr _=>by go_simp;try (with_reducible rfl)
   simp only[qQ];refine ac 4 36 (v:=Qc Qi (y.toNat:Int)) l ?_ ?_
   .exact λr _=>by go_simp;try (with_reducible rfl)
   try simp only[qQ]
   refine aF 1 λK M=>?_
   go_simp;go_wp2_with (go_at_call 177;refine gv J2 λa6 P=>?_);have g:=l.keep P;refine M.out _ _ g ?_;try simp only[qQ]
   clear M K P l;refine ae 5 37 (v:=Qd true) g ?_;simp only[qQ];refine aC ?_;clear a3;have b:=g.gt 0 rfl;go_wp2_with (first
    |(refine ld t69 rfl rfl R rfl b F ?_))
   clear b;refine gv J3 λw8 k8=>?_
   replace g:=g.keep k8;clear k8;have b:=g.gt 0 rfl;go_wp2_with (first
    |(refine st t69 rfl rfl R rfl rfl b ay F (aZ _) ?_))
   clear b;replace g:WD w (w.heap.size) [(R,Ws n,69),(q6,Ws B,69),(q5,Ws o,69),(q4,Ws Y,69),(w.heap.size,Ws i,122)] (w8.setRow R (Ws n)):=g.over 0 rfl (Ws n);generalize w8.setRow R (Ws n)=wv at g|-;refine rgS [5] g.drew (λhd x=>?_);clear g;refine ar 0 40 t69 (λ_ h=>h.get 0 rfl) ay x ?_;refine ar 1 41 t69 (λ_ h=>h.get 3 rfl) sY x ?_;try simp only[qQ]
   refine yh 1 [(2,42,Qa (Ws c)),(3,43,Qa (Ws P2))] 4 9 (Ws i) 122 x ⟨vc T,vm (λu r=>uO 122 _ rfl [(0,Qa (Ws n)),(1,Qa (Ws Y)),(2,Qa (Ws c))] kr _ (B2.out r))⟩ (λn' S hx a=>?_);clear x;simp only[kf,Qn,Qo,Qp,Qq,Qk,Qm,qQ];refine ltW 5 0 a QE L q (aZ _) (λba a=>?_);refine aC ?_;have b:=a.gt 0 rfl;go_wp2_with (first
    |(refine ld r6 rfl rfl S rfl b L ?_))
   clear b;refine gv J5 λw9 Q=>?_
   replace a:=a.keep Q;clear Q;by_cases t:X=s
   .have N:=Qh t;clear t;have b:=a.get 0 rfl;have D:=a.get 5 rfl;dsimp only at b D;unfold Blk at b D;rw[N.out];go_wp2_with (first
     |(refine ld r6 rfl rfl S rfl b L ?_)
     |(refine Qx rfl 122 _ _ rfl w.heap.size _ rfl rfl 122 _ D (by rw[L];exact QE) (by rw[L,q]) (aZ _) ?_))
    have k:=a.over 5 rfl (Ws P2);refine Qy (v:=Qe #[Qa (Ws P2),Qd true]) ?_ rfl ⟨by rw[v3.out trivial I.out N.out],k.below⟩;exact bj rfl _ _ w.heap.size 122 _ (0,0) _ (Qd true) rfl rfl (k.get 5 rfl) QD rfl (by rw[L];exact QE)
   .have a2:=G6 t;have b:=a.gt 5 rfl;go_wp2_with (first
     |(refine nG rfl 122 _ rfl [] rfl _ (H.out _) ?_)
     |(refine Qx rfl 122 _ _ rfl w.heap.size _ rfl rfl 122 _ b (by rw[q];exact QE) rfl (aZ _) ?_))
    have k:=a.over 5 rfl (Ws i);refine Qy (v:=Qe #[Qa (Ws i),Qd false]) ?_ rfl ⟨by rw[v4.out trivial I.out t],k.below⟩;exact bj rfl _ _ w.heap.size 122 _ (0,0) _ (Qd false) rfl rfl (k.get 5 rfl) QD rfl (by rw[q];exact QE)
end Go.Proofs.YtclpbaokadfhhaaGreatDoor
