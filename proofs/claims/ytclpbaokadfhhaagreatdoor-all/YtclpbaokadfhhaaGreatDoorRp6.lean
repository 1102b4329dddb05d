import Derived.Test.YtclpbaokadfhhaaGreatDoorZi
set_option maxRecDepth 100000
set_option maxHeartbeats 20000000
open Go.Value renaming agg->Qa,bool->Qc,tuple->Qd,int->Qe,string->Qf,slice->Qg,pointer->Qi
open List renaming foldl_cons->Qj,foldl_nil->Qk,map_cons->Qm,map_nil->Qn,cons_append->Qo,nil_append->Qp
open Go.Proofs.YtclpbaokadfhhaaGreatDoor.Tryz renaming infoP64->Qq,info16->Qt
open Go renaming bodyPost_ret->Qx,wpList_store_row->Qy,World->Qz,Value->QA,undef->QB,Calls->QC
open Go.Proofs.Tryz renaming underlying61->QD,prog->QE
open Nat renaming reduceEqDiff->QF
open Bool renaming noConfusion->QG
open Go.Proofs.YtclpbaokadfhhaaGreatDoor renaming Fd_none16->QJ,Rp_Z64->QL
open Go.Obj renaming cells->QM
open Go.Instr renaming build->QN
namespace Go.Proofs.YtclpbaokadfhhaaGreatDoor
open Go.RowKit
open StepsU renaming cons->QH,nil->QI
def Sl(l:List Int)(v:QA)(w:Qz):Prop:= ∃q c,v=Qg (some ⟨q,0,none⟩) l.length c/\q<w.heap.size/\ ∀i,i<l.length->w.cell? ⟨q,i,none⟩=some (Qe .i64 (l.getD i 0))
theorem Sl.keep{l:List Int}{v:QA}{w w':Qz}(h:Sl l v w)(k:Below w.heap.size w w'):Sl l v w':=by
 obtain⟨q,c,e,a,b⟩:=h;exact⟨q,c,e,Nat.lt_of_lt_of_le a k.size,λi d=>(k.cell (p:=⟨q,i,none⟩) a).trans (b i d)⟩
theorem Sl.alloc{l:List Int}{v:QA}{w:Qz}(h:Sl l v w)(o:Obj):Sl l v (w.alloc o):=h.keep (bR.alloc nR o)
theorem Sl.new(w:Qz)(l:List Int):Sl l (Qg (some ⟨w.heap.size,0,none⟩) l.length l.length) (w.alloc (QM (Ns l) 3)):=
 ⟨w.heap.size,_,rfl,by rw[kK];omega,λi a=>by rw[(Blk.new w (Ns l) 3).cell i];exact mu _ i a⟩
theorem Wl(a:List Int)(b:Nat)(m:Int)(r:m=(b:Int))(s:b<=1000)(o:a.length<b)(n:0<a.length)(w:Qz)(v:QA)(h:Sl a v w):
  QC QE 144 #[v,Qe .i64 m] w λe w'=> ∃v',e=.returned v'/\Sl (gr a b) v' w'/\Below w.heap.size w w':=by
 obtain⟨q,c,rfl,t,k⟩:=h;refine(Nu a m b q c w r s o n k).mono ?_;rintro e w' ⟨g,cap,rfl,d,j⟩;have f:=qH a b oo;have p:0<(gr a b).length:=by rw[f];omega
 refine⟨_,rfl,⟨g,cap,by rw[f],block_lt_of_cell (d.cell 0 p),λi l=>d.cell i l⟩,j⟩
theorem SV(a b:List Int)(d:Fd_Good a)(f:b.length<=1000)(w:Qz)(v:QA)(h:Sl b v w):
  Rw 145 #[Qa (Ns a),v] w (Qa (Ns (oA a b))):=by
 obtain⟨q,c,rfl,g,e⟩:=h;exact Lt a b q c w d f e g
theorem Wa{a b:Qu}(h:¬a=b):((⟨a.toArray⟩:ByteArray).toList==(⟨b.toArray⟩:ByteArray).toList)=false:=by
 cases d:(⟨a.toArray⟩:ByteArray).toList==(⟨b.toArray⟩:ByteArray).toList with
 |false=>rfl
 |true=>
  have c:=eq_of_beq d;rw[ByteArray.toList_eq,ByteArray.toList_eq]at c;exact absurd c h
theorem gK{P:Program}{c:Func}{p q:Tmp}{b:TypeId}(h:c.results=#[.cell p b,.tmp q])(tmps:Array QA)(w:Qz)(g:Nat)(t:TypeId)(a:Array QA)(e:Nat×Nat)(d:TypeDesc)(v:QA)
  (k:tmps.getD p QB=Qi (some ⟨g,0,none⟩)) (m:tmps.getD q QB=v) (i:w.heap[g]? =some (QM a t e))
  (o:P.underlying b=some d) (f:(match d with| .struct _| .array _ _=>true|_=>false)=true) (j:(P.info? b).map (·.size)=some a.size):
  (results c tmps).run P w=.ok (Qd #[Qa a,v]) w:=by
 have l:tmps[p]?.getD QB=Qi (some ⟨g,0,none⟩):=by simpa using k
 have n:tmps[q]?.getD QB=v:=by simpa using m
 simp[results,h,l,n,asAddr,run_loadVar_row w g t b a e d i o f j]
theorem Ud(s:Qb)(Y YY D i M1 DY V IV I X XX TO PR y bq O0 a8 a9 J TX ab L ag ad:List Int)(lt:Qu)(ay a2 r oX nX a1 a3:Bool)(M:QA)(w:Qz)(hs:s.size=32)
  (N:Y.length=16) (c7:YY.length=16) (hD:D.length=16) (W:i.length=16) (c5:M1.length=16) (hV:V.length=16) (c6:I.length=16) (E:X.length=16) (j:y.length=16) (ba:J.length=16) (bb:L.length=16) (ca:TX.length=16) (b8:ab.length=16) (cb:ag.length=16) (b9:ad.length=16)
  (c8:decide ((128:Int)<=((s.data.toList.getD 31 0).toNat:Int))=r)
  (v0:Hid (¬lt=s.data.toList.set 31 (s.data.toList.getD 31 0%128)->M=Qd #[Qa (Ns QL),Qc false]))
  (v1:Hid (lt=s.data.toList.set 31 (s.data.toList.getD 31 0%128)->ay=true->(oX=r->M=Qd #[Qa (Ns (bm X Y i TX)),Qc true])/\(¬oX=r->nX=r->M=Qd #[Qa (Ns (bm J Y i ab)),Qc true])/\(¬oX=r-> ¬nX=r->M=Qd #[Qa (Ns QL),Qc false])))
  (v2:Hid (lt=s.data.toList.set 31 (s.data.toList.getD 31 0%128)->ay=false->a2=true->(a1=r->M=Qd #[Qa (Ns (bm y Y i ag)),Qc true])/\(¬a1=r->a3=r->M=Qd #[Qa (Ns (bm L Y i ad)),Qc true])/\(¬a1=r-> ¬a3=r->M=Qd #[Qa (Ns QL),Qc false])))
  (v3:Hid (lt=s.data.toList.set 31 (s.data.toList.getD 31 0%128)->ay=false->a2=false->M=Qd #[Qa (Ns QL),Qc false]))
  (b1:Hid (∀c v,Sl [0] v c->QC QE 144 #[v,Qe .i64 252] c λe w'=> ∃v',e=.returned v'/\Sl a8 v' w'/\Below c.heap.size c w'))
  (b2:Hid (∀c v,Sl [0,1,1] v c->QC QE 144 #[v,Qe .i64 253] c λe w'=> ∃v',e=.returned v'/\Sl a9 v' w'/\Below c.heap.size c w'))
  (p1:Hid (∀c v,Sl a8 v c->Rw 145 #[Qa (Ns I),v] c (Qa (Ns X))))
  (p2:Hid (∀c v,Sl a9 v c->Rw 145 #[Qa (Ns TO),v] c (Qa (Ns PR))))
  (H1:Hid (Rv 139 #[Qf s] (Qa (Ns Y))))
  (H2:Hid (Rv 87 #[Qa (Ns Y)] (Qf ⟨lt.toArray⟩)))
  (H3:Hid (Rv 84 #[Qa (Ns Y),Qa (Ns Y)] (Qa (Ns YY))))
  (H4:Hid (Rv 79 #[] (Qa (Ns D))))
  (H5:Hid (Rv 81 #[Qe .i64 1] (Qa (Ns i))))
  (H6:Hid (Rv 140 #[Qa (Ns YY),Qa (Ns i)] (Qa (Ns M1))))
  (H7:Hid (Rv 84 #[Qa (Ns D),Qa (Ns YY)] (Qa (Ns DY))))
  (H8:Hid (Rv 80 #[Qa (Ns DY),Qa (Ns i)] (Qa (Ns V))))
  (H9:Hid (Rv 85 #[Qa (Ns V)] (Qa (Ns IV))))
  (J1:Hid (Rv 84 #[Qa (Ns M1),Qa (Ns IV)] (Qa (Ns I))))
  (J2:Hid (Rv 84 #[Qa (Ns X),Qa (Ns X)] (Qa (Ns XX))))
  (J3:Hid (Rv 146 #[Qa (Ns XX),Qa (Ns I)] (Qc ay)))
  (J4:Hid (Rv 81 #[Qe .i64 2] (Qa (Ns TO))))
  (J5:Hid (Rv 84 #[Qa (Ns X),Qa (Ns PR)] (Qa (Ns y))))
  (J6:Hid (Rv 84 #[Qa (Ns y),Qa (Ns y)] (Qa (Ns bq))))
  (J7:Hid (Rv 146 #[Qa (Ns bq),Qa (Ns I)] (Qc a2)))
  (K0:Hid (Rv 81 #[Qe .i64 0] (Qa (Ns O0))))
  (K1:Hid (Rv 88 #[Qa (Ns X)] (Qc oX)))
  (K2:Hid (Rv 140 #[Qa (Ns O0),Qa (Ns X)] (Qa (Ns J))))
  (K3:Hid (Rv 88 #[Qa (Ns J)] (Qc nX)))
  (K4:Hid (Rv 84 #[Qa (Ns X),Qa (Ns Y)] (Qa (Ns TX))))
  (K5:Hid (Rv 84 #[Qa (Ns J),Qa (Ns Y)] (Qa (Ns ab))))
  (L1:Hid (Rv 88 #[Qa (Ns y)] (Qc a1)))
  (L2:Hid (Rv 140 #[Qa (Ns O0),Qa (Ns y)] (Qa (Ns L))))
  (L3:Hid (Rv 88 #[Qa (Ns L)] (Qc a3)))
  (L4:Hid (Rv 84 #[Qa (Ns y),Qa (Ns Y)] (Qa (Ns ag))))
  (L5:Hid (Rv 84 #[Qa (Ns L),Qa (Ns Y)] (Qa (Ns ad)))):
  QC QE 86 #[Qf s] w λe w'=>e=.returned M/\Below w.heap.size w w':=by
 have hz:=oe;have df:=sq;have ah:=II;have sZ:=rg;have B1:=Qh (tv X Y i TX E N W ca);have cr:=jO E N W ca;generalize bm X Y i TX=Q1 at B1 cr v1;have cY:=Nz cr;have B2:=Qh (tv J Y i ab ba N W b8);have cs:=jO ba N W b8;generalize bm J Y i ab=Q2 at B2 cs v1;have c0:=Nz cs;have B3:=Qh (tv y Y i ag j N W cb);have cv:=jO j N W cb;generalize bm y Y i ag=Q3 at B3 cv v2;have c1:=Nz cv;have B4:=Qh (tv L Y i ad bb N W b9);have cw:=jO bb N W b9;generalize bm L Y i ad=Q4 at B4 cw v2;have c2:=Nz cw;generalize QL=q at df sZ ah v0 v1 v2 v3;have A:=Nz sZ;replace ah:=Qh ah;have H:=Nz N;have bi:=Nz c7;have sD:=Nz hD;have cX:=Nz c5;have sV:=Nz hV;have a7:=Nz c6;have P:=Nz j;have a5:=Nz ba;have a6:=Nz bb;have G:=Nz E;have db:s.data.toList.length=32:=by rw[<-hs];simp
 have bs:((s.data.toList.getD 31 0).toNat:Int)%128=((s.data.toList.getD 31 0%128).toNat:Int):=by rw[UInt8.toNat_mod];rfl
 have u1:=(s.data.toList.getD 31 0).toNat_lt;have b7:Hid (s.data.toList.set 31 (s.data.toList.getD 31 0%128)=s.data.toList.set 31 (s.data.toList.getD 31 0%128)):=rfl;have cp:(s.data.toList.set 31 (s.data.toList.getD 31 0%128)).length=32:=by rw[List.length_set,db]
 generalize a0:s.data.toList.set 31 (s.data.toList.getD 31 0%128)=LB at v0 v1 v2 v3 cp b7;clear b7;replace a0:=Qh a0;generalize co:s.data.toList.getD 31 0=bk at c8 bs u1 a0;generalize bk%128=az at a0 bs;have u2:=az.toNat_lt;have dU:IntKind.u8.wrap (az.toNat:Int)=(az.toNat:Int):=by rw[IntKind.wrap_u8];omega
 have a:=(WD.start (w:=w)).new (Ns q) 61;go_enter Tryz.func86,Tryz.ntmps86;go_wp2_with fail;generalize w.alloc (QM (Ns q) 61)=w1 at a|-;refine gvW a H1 (λt a=>?_);have hN:=a.new (Ns QJ) 59;have gz:=hN.get 0 rfl;dsimp only at gz;unfold Blk at gz;replace a:WD w (w.heap.size) [(t.heap.size,Ns Y,59),(w.heap.size,Ns q,61)] ((t.alloc (QM (Ns QJ) 59)).setRow t.heap.size (Ns Y)):=hN.over 0 rfl (Ns Y);obtain⟨cap,wb,bd,ho,b3⟩:=bytesOf s ((t.alloc (QM (Ns QJ) 59)).setRow t.heap.size (Ns Y)).heap.size ((t.alloc (QM (Ns QJ) 59)).setRow t.heap.size (Ns Y)) nR;rw[hs]at bd;replace ho:=ho.at;have cc:=a.below.size;have bh:=(a.get 0 rfl).lt;have b4:=b3.setCell (p:=⟨((t.alloc (QM (Ns QJ) 59)).setRow t.heap.size (Ns Y)).heap.size,31,none⟩) nR (Qe .u8 (az.toNat:Int));replace a:=a.keep b4;clear b3 b4;have ce:((t.alloc (QM (Ns QJ) 59)).setRow t.heap.size (Ns Y)).heap.size=t.heap.size+1:=ss
 rw[ce]at bd ho cc bh a;clear ce;have bz:=ho.cell 31 oo;have c4:=ho.frozen 31 oo;rw[co]at bz;have o2:=ho.set 31 az;rw[a0.out]at o2;clear ho;have dQ:Int.tmod (bk.toNat:Int) 128=(bk.toNat:Int)%128:=Int.tmod_eq_emod_of_nonneg oo;go_wp2_with (first
  |(refine stN rfl rfl t.heap.size rfl rfl gz H rfl ?_))
 clear hN gz bz c4 bd cc co;generalize wb.setCell ⟨t.heap.size+1,31,none⟩ (Qe .u8 (az.toNat:Int))=wc at a o2|-;generalize t.heap.size=O at a o2 bh|-;generalize O+1=gb at o2 bh|-;refine bu (S:=(λc=>WD w (w.heap.size) [(O,Ns Y,59),(w.heap.size,Ns q,61)] c/\OwnR c gb cap LB)) (ls:=[]) kr ?_;have Z:(λc=>WD w (w.heap.size) [(O,Ns Y,59),(w.heap.size,Ns q,61)] c/\OwnR c gb cap LB) wc.drew:=⟨a.drew,o2.drew⟩;clear a o2;generalize wc.drew=wd at Z|-;refine ac 0 28 (v:=Qa (Ns Y)) Z ?_ ?_
 .exact λc an=>xl t59 (an.1.get 0 rfl) H rfl rfl
 try simp only[qQ]
 refine ae 2 30 Z ?_;try simp only[qQ]
 refine ac 3 31 (v:=Qf ⟨LB.toArray⟩) Z ?_ ?_
 ·(intro c an;have dE:=lW (n:=32) an.2 (by rw[cp]);clear an;go_simp;try (with_reducible rfl))
 try simp only[qQ]
 refine aF 1 λK g=>?_
 go_simp;go_wp2_with (go_at_call 87;refine gv H2 λwf f=>?_);have hT:(λc=>WD w (w.heap.size) [(O,Ns Y,59),(w.heap.size,Ns q,61)] c/\OwnR c gb cap LB) wf:=⟨Z.1.keep f,Z.2.below f Z.2.lt⟩;refine g.out _ _ hT ?_;try simp only[qQ]
 clear g K f Z;by_cases z:lt=LB
 .replace z:=Qh z;refine ac 4 32 (v:=Qc false) hT ?_ ?_
  ·(intro c an;clear an;go_simp;exact z.out)
  try simp only[qQ]
  have a:=hT.1;clear hT;refine aC ?_;go_wp2_with (first
   |(refine ldW 0 a twN H ?_))
  refine gvW a H3 (λx6 a=>?_);go_wp2_with (first
   |(refine asW a twN bi rfl (aK _) (λv7 a=>?_);generalize x6.heap.size=q7 at a|-))
  refine gvW a H4 (λx8 a=>?_);go_wp2_with (first
   |(refine asW a twN sD rfl (aK _) (λv9 a=>?_);generalize x8.heap.size=q8 at a|-))
  refine rgS [4] a.drew (λcd b=>?_);clear a;refine ar 0 38 t59 (λ_ h=>h.get 1 rfl) bi b ?_;try simp only[qQ]
  refine yh 1 [(1,39,Qa (Ns i)),(2,40,Qa (Ns M1))] 3 9 (Ns QJ) 59 b ⟨vc H5,vc H6⟩ (λF q9 cx a=>?_);clear b;simp only[kf,Qm,Qn,Qo,Qp,Qj,Qk,qQ];refine ltW 4 0 a Qt cX rfl (aK _) (λdp a=>?_);refine aC ?_;go_wp2_with (first
   |(refine ldW 1 a twN sD ?_)
   |(refine ldW 2 a twN bi ?_))
  refine gvW a H7 (λdY a=>?_);go_wp2_with fail;refine gvW a H5 (λd0 a=>?_);go_wp2_with fail;refine gvW a H8 (λdn a=>?_);go_wp2_with (first
   |(refine asW a twN sV rfl (aK _) (λdm a=>?_);generalize dn.heap.size=di at a|-))
  replace a:WD w (w.heap.size) [(di,Ns V,59),(q9,Ns M1,59),(O,Ns Y,59),(w.heap.size,Ns q,61)] dm:=a.sub ss;refine rgS [5] a.drew (λdd b=>?_);clear a;refine ar 0 46 t59 (λ_ h=>h.get 1 rfl) cX b ?_;refine ar 1 47 t59 (λ_ h=>h.get 0 rfl) sV b ?_;try simp only[qQ]
  refine yh 1 [(2,48,Qa (Ns IV)),(3,49,Qa (Ns I))] 4 11 (Ns QJ) 59 b ⟨vc H9,vc J1⟩ (λF a4 dx a=>?_);clear b;simp only[kf,Qm,Qn,Qo,Qp,Qj,Qk,qQ];refine ltW 5 0 a Qt a7 rfl (aK _) (λc3 a=>?_);refine aC ?_;go_wp2_with fail;replace a:WD w (w.heap.size) [(a4,Ns I,59),(O,Ns Y,59),(w.heap.size,Ns q,61)] c3:=a.sub ss;refine rgS [5] a.drew (λed b=>?_);clear a;refine ar 0 50 t59 (λ_ h=>h.get 0 rfl) a7 b ?_;try simp only[qQ]
  change bP _ _ _ _ _ _ 5 #[true,false,false,false,false,false] _ _;refine wD (R:=λd u w'=>(d 1=true->Sl [0] (u 51) w')/\(d 2=true->Sl a8 (u 52) w')/\(d 3=true->u 53=Qa (Ns X))/\(d 4=true->Fresh w (w.heap.size) [(a4,Ns I,59),(O,Ns Y,59),(w.heap.size,Ns q,61)] (Ns QJ) 59 (u 12) w')/\WD w (w.heap.size) [(a4,Ns I,59),(O,Ns Y,59),(w.heap.size,Ns q,61)] w') [51,52,53,12] [1,2,3,4] #[true,true,true,true,true,false] kr kr kr ⟨λh=>QG h,λh=>QG h,λh=>QG h,λh=>QG h,b⟩ ?U ?fine;case U=>
   refine QH rfl ?se1 (QH rfl ?se2 (QH rfl ?se3 (QH rfl ?se4 QI)));case se1=>
    rintro d u c ⟨l,h2,o,m,a⟩ k K g;simp only[bK,qF,qQ];go_simp;refine g.out (upV u 51 (Qg (some ⟨c.heap.size,0,none⟩) 1 1)) _ (a.alloc _) ⟨λ_=>Sl.new c [0],λh=>(h2 h).alloc _,λh=>o h,λh=>(m h).alloc _,a.alloc _⟩ _ ?_;simp only[bK,qF,qQ,upV,reduceIte,QF]
   case se2=>
    rintro d u c ⟨l,h2,o,m,a⟩ k K g;simp only[bK,qF,qQ];go_simp;go_wp2_with (go_at_call 144;refine(b1.out _ _ (l (k 1 kr))).mono ?_;rintro e x0 ⟨v0,rfl,s0,f⟩);refine g.out (upV u 52 (v0)) _ (a.keep f) ⟨λh=>(l h).keep f,λ_=>s0,λh=>o h,λh=>(m h).keep f,a.keep f⟩ _ ?_;simp only[bK,qF,qQ,upV,reduceIte,QF]
   case se3=>
    rintro d u c ⟨l,h2,o,m,a⟩ k K g;simp only[bK,qF,qQ];go_simp;go_wp2_with (go_at_call 145;refine mo (p1.out _ _ (h2 (k 2 kr))) λx0 f=>?_);refine g.out (upV u 53 (Qa (Ns X))) _ (a.keep f) ⟨λh=>(l h).keep f,λh=>(h2 h).keep f,λ_=>rfl,λh=>(m h).keep f,a.keep f⟩ _ ?_;simp only[bK,qF,qQ,upV,reduceIte,QF]
   case se4=>
    rintro d u c ⟨l,h2,o,m,a⟩ k K g;simp only[bK,qF,qQ];go_simp;refine g.out (upV u 12 (Qi (some ⟨c.heap.size,0,none⟩))) _ (a.alloc _) ⟨λh=>(l h).alloc _,λh=>(h2 h).alloc _,λh=>o h,λ_=>WB a _ _,a.alloc _⟩ _ ?_;simp only[bK,qF,qQ,upV,reduceIte,QF]
  case fine=>
   rintro F d u ex ⟨l,h2,o,m,a⟩ k;have bY:=o (k 3 rfl);obtain⟨dl,bX,bx,cz,cK⟩:=m (k 4 rfl);simp only[bK,qF,qQ,bY,bX];clear k l h2 o m bY bX;generalize u 51=u51;generalize u 52=u52;change bP _ _ _ _ _ _ (F+1) _ _ _;replace a:=a.push bx cK (λx hx=>Nat.ne_of_lt (cz x hx));clear bx cz cK;refine ltW 5 0 a Qt G rfl (aK _) (λdr a=>?_);refine aC ?_;go_wp2_with fail;refine rgS [] a.drew (λfd b=>?_);clear a;refine ar 0 54 t59 (λ_ h=>h.get 0 rfl) G b ?_;refine ar 1 55 t59 (λ_ h=>h.get 0 rfl) G b ?_;refine ar 3 57 t59 (λ_ h=>h.get 1 rfl) a7 b ?_;try simp only[qQ]
   refine aF 2 λK g=>?_
   go_simp;go_wp2_with (go_at_call 84;refine gv J2 λds f=>?_);have E:=b.keep f;refine g.out _ _ E ?_;try simp only[qQ]
   clear g K f b;refine aF 4 λK g=>?_
   go_simp;go_wp2_with (go_at_call 146;refine gv J3 λdy f=>?_);have j:=E.keep f;refine g.out _ _ j ?_;try simp only[qQ]
   clear g K f E;refine ae 5 13 (v:=Qc ay) j ?_;simp only[qQ];refine aC ?_;have a:=j;clear j;cases ay with
   |true=>
    go_wp2_with (first
     |(refine ldW 0 a twN G ?_))
    refine gvW a K1 (λd1 a=>?_);by_cases Q:oX=r
    .replace Q:=Qh Q;have ax:=Qh trivial;rw[Q.out];clear ax;go_wp2_with (first
      |(refine ldW 0 a twN G ?_))
     refine gvW a K1 (λd2 a=>?_);rw[Q.out];go_wp2_with fail;refine rgS [7,8] a.drew (λd7 b=>?_);clear a;refine ar 0 87 t59 (λ_ h=>h.get 0 rfl) G b ?_;refine ar 1 88 t59 (λ_ h=>h.get 2 rfl) H b ?_;refine ar 3 90 t59 (λ_ h=>h.get 0 rfl) G b ?_;simp only[qQ];refine ar 4 91 t59 (λ_ h=>h.get 2 rfl) H b ?_;try simp only[qQ]
     refine Cf 2 [(2,89,Qa (Ns i)),(5,92,Qa (Ns TX)),(6,93,Qa (Ns Q1))] b ⟨vc H5,vc K4,vm (λu c=>dC 61 _ rfl [(0,Qa (Ns X)),(1,Qa (Ns Y)),(2,Qa (Ns i)),(3,Qa (Ns TX))] kr _ (B1.out c))⟩ (λF d8 a=>?_);clear b;simp only[kf,Qm,Qn,Qj,Qk,qQ];refine ltW 7 3 a Qq cY A (aK _) (λd9 a=>?_);refine eF 8 λK g=>?_
     go_simp;refine g.out _ _ ?_;clear g K;refine aC ?_;go_wp2;refine Qx (v:=Qd #[Qa (Ns Q1),Qc true]) ?_ rfl ⟨by rw[(v1.out z.out (by trivial)).1 Q.out],a.below⟩;exact gK rfl _ _ w.heap.size 61 _ (0,0) _ (Qc true) rfl rfl (a.get 3 rfl) QD rfl (by rw[cY];exact Qq)
    .have ax:=beq_eq_false_iff_ne.mpr Q;go_wp2_with fail;refine rgS [3] a.drew (λee b=>?_);clear a;refine ar 1 80 t59 (λ_ h=>h.get 0 rfl) G b ?_;try simp only[qQ]
     refine Cf 1 [(0,79,Qa (Ns O0)),(2,81,Qa (Ns J))] b ⟨vc K0,vc K2⟩ (λF ei j=>?_);clear b;simp only[kf,Qm,Qn,Qj,Qk,qQ];refine ltW 3 0 j Qt a5 G (aK _) (λel j=>?_);refine aC ?_;have a:=j;clear j;go_wp2_with (first
      |(refine ldW 0 a twN a5 ?_))
     refine gvW a K3 (λd3 a=>?_);by_cases ao:nX=r
     .replace ao:=Qh ao;rw[ao.out];go_wp2_with fail;refine rgS [7,8] a.drew (λea b=>?_);clear a;refine ar 0 87 t59 (λ_ h=>h.get 0 rfl) a5 b ?_;refine ar 1 88 t59 (λ_ h=>h.get 2 rfl) H b ?_;refine ar 3 90 t59 (λ_ h=>h.get 0 rfl) a5 b ?_;simp only[qQ];refine ar 4 91 t59 (λ_ h=>h.get 2 rfl) H b ?_;try simp only[qQ]
      refine Cf 2 [(2,89,Qa (Ns i)),(5,92,Qa (Ns ab)),(6,93,Qa (Ns Q2))] b ⟨vc H5,vc K5,vm (λu c=>dC 61 _ rfl [(0,Qa (Ns J)),(1,Qa (Ns Y)),(2,Qa (Ns i)),(3,Qa (Ns ab))] kr _ (B2.out c))⟩ (λF eb a=>?_);clear b;simp only[kf,Qm,Qn,Qj,Qk,qQ];refine ltW 7 3 a Qq c0 A (aK _) (λec a=>?_);refine eF 8 λK g=>?_
      go_simp;refine g.out _ _ ?_;clear g K;refine aC ?_;go_wp2;refine Qx (v:=Qd #[Qa (Ns Q2),Qc true]) ?_ rfl ⟨by rw[(v1.out z.out (by trivial)).2.1 Q ao.out],a.below⟩;exact gK rfl _ _ w.heap.size 61 _ (0,0) _ (Qc true) rfl rfl (a.get 3 rfl) QD rfl (by rw[c0];exact Qq)
     .have c9:=beq_eq_false_iff_ne.mpr ao;have ge:=a.gt 3 rfl;go_wp2_with (first
       |(refine iA rfl 61 _ rfl [] rfl _ (ah.out _) ?_)
       |(refine Qy rfl 61 _ _ rfl w.heap.size _ rfl rfl 61 _ ge (by rw[A];exact Qq) rfl (aK _) ?_))
      have C:=a.over 3 rfl (Ns q);refine Qx (v:=Qd #[Qa (Ns q),Qc false]) ?_ rfl ⟨by rw[(v1.out z.out (by trivial)).2.2 Q ao],C.below⟩;exact gK rfl _ _ w.heap.size 61 _ (0,0) _ (Qc false) rfl rfl (C.get 3 rfl) QD rfl (by rw[A];exact Qq)
   |false=>
    go_wp2_with fail;refine rgS [6] a.drew (λkd b=>?_);clear a;refine ar 0 61 t59 (λ_ h=>h.get 0 rfl) G b ?_;try simp only[qQ]
    change bP _ _ _ _ _ _ 6 #[true,false,false,false,false,false,false] _ _;refine wD (R:=λd u w'=>(d 1=true->u 62=Qa (Ns TO))/\(d 2=true->Sl [0,1,1] (u 63) w')/\(d 3=true->Sl a9 (u 64) w')/\(d 4=true->u 65=Qa (Ns PR))/\(d 5=true->u 66=Qa (Ns y))/\WD w (w.heap.size) [(dl,Ns X,59),(a4,Ns I,59),(O,Ns Y,59),(w.heap.size,Ns q,61)] w') [62,63,64,65,66] [1,2,3,4,5] #[true,true,true,true,true,true,false] kr kr kr ⟨λh=>QG h,λh=>QG h,λh=>QG h,λh=>QG h,λh=>QG h,b⟩ ?stepsk ?fink;case stepsk=>
     refine QH rfl ?sk1 (QH rfl ?sk2 (QH rfl ?sk3 (QH rfl ?sk4 (QH rfl ?sk5 QI))));case sk1=>
      rintro d u c ⟨l,h2,o,m,B,a⟩ k K g;simp only[bK,qF,qQ];go_simp;go_wp2_with (go_at_call 81;refine gv J4 λx0 f=>?_);refine g.out (upV u 62 (Qa (Ns TO))) _ (a.keep f) ⟨λ_=>rfl,λh=>(h2 h).keep f,λh=>(o h).keep f,λh=>m h,λh=>B h,a.keep f⟩ _ ?_;simp only[bK,qF,qQ,upV,reduceIte,QF]
     case sk2=>
      rintro d u c ⟨l,h2,o,m,B,a⟩ k K g;simp only[bK,qF,qQ];go_simp;refine g.out (upV u 63 (Qg (some ⟨c.heap.size,0,none⟩) 3 3)) _ (a.alloc _) ⟨λh=>l h,λ_=>Sl.new c [0,1,1],λh=>(o h).alloc _,λh=>m h,λh=>B h,a.alloc _⟩ _ ?_;simp only[bK,qF,qQ,upV,reduceIte,QF]
     case sk3=>
      rintro d u c ⟨l,h2,o,m,B,a⟩ k K g;simp only[bK,qF,qQ];go_simp;go_wp2_with (go_at_call 144;refine(b2.out _ _ (h2 (k 2 kr))).mono ?_;rintro e x0 ⟨v0,rfl,s0,f⟩);refine g.out (upV u 64 (v0)) _ (a.keep f) ⟨λh=>l h,λh=>(h2 h).keep f,λ_=>s0,λh=>m h,λh=>B h,a.keep f⟩ _ ?_;simp only[bK,qF,qQ,upV,reduceIte,QF]
     case sk4=>
      rintro d u c ⟨l,h2,o,m,B,a⟩ k K g;have e1:=l (k 1 kr);simp only[bK,qF,qQ,e1];go_simp;go_wp2_with (go_at_call 145;refine mo (p2.out _ _ (o (k 3 kr))) λx0 f=>?_);refine g.out (upV u 65 (Qa (Ns PR))) _ (a.keep f) ⟨λh=>l h,λh=>(h2 h).keep f,λh=>(o h).keep f,λ_=>rfl,λh=>B h,a.keep f⟩ _ ?_;simp only[bK,qF,qQ,upV,reduceIte,QF,e1]
     case sk5=>
      rintro d u c ⟨l,h2,o,m,B,a⟩ k K g;have e4:=m (k 4 kr);simp only[bK,qF,qQ,e4];go_simp;go_wp2_with (go_at_call 84;refine gv J5 λx0 f=>?_);refine g.out (upV u 66 (Qa (Ns y))) _ (a.keep f) ⟨λh=>l h,λh=>(h2 h).keep f,λh=>(o h).keep f,λh=>m h,λ_=>rfl,a.keep f⟩ _ ?_;simp only[bK,qF,qQ,upV,reduceIte,QF,e4]
    case fink=>
     rintro F d u kx ⟨l,h2,o,m,B,a⟩ k;have b0:=l (k 1 rfl);have b5:=m (k 4 rfl);have b6:=B (k 5 rfl);simp only[bK,qF,qQ,b0,b5,b6];clear k l h2 o m B b0 b5 b6;generalize u 63=u63;generalize u 64=u64;change bP _ _ _ _ _ _ (F+1) _ _ _;refine ltW 6 0 a Qt P G (aK _) (λdP a=>?_);refine aC ?_;go_wp2_with fail;refine rgS [] a.drew (λmd b=>?_);clear a;refine ar 0 67 t59 (λ_ h=>h.get 0 rfl) P b ?_;refine ar 1 68 t59 (λ_ h=>h.get 0 rfl) P b ?_;refine ar 3 70 t59 (λ_ h=>h.get 1 rfl) a7 b ?_;try simp only[qQ]
     refine aF 2 λK g=>?_
     go_simp;go_wp2_with (go_at_call 84;refine gv J6 λdS f=>?_);have E:=b.keep f;refine g.out _ _ E ?_;try simp only[qQ]
     clear g K f b;refine aF 4 λK g=>?_
     go_simp;go_wp2_with (go_at_call 146;refine gv J7 λdT f=>?_);have j:=E.keep f;refine g.out _ _ j ?_;try simp only[qQ]
     clear g K f E;refine ae 5 13 (v:=Qc a2) j ?_;simp only[qQ];refine aC ?_;have a:=j;clear j;cases a2 with
     |true=>
      go_wp2_with (first
       |(refine ldW 0 a twN P ?_))
      refine gvW a L1 (λd4 a=>?_);by_cases T:a1=r
      .replace T:=Qh T;have ax:=Qh trivial;rw[T.out];clear ax;go_wp2_with (first
        |(refine ldW 0 a twN P ?_))
       refine gvW a L1 (λd5 a=>?_);rw[T.out];go_wp2_with fail;refine rgS [7,8] a.drew (λem b=>?_);clear a;refine ar 0 87 t59 (λ_ h=>h.get 0 rfl) P b ?_;refine ar 1 88 t59 (λ_ h=>h.get 2 rfl) H b ?_;refine ar 3 90 t59 (λ_ h=>h.get 0 rfl) P b ?_;simp only[qQ];refine ar 4 91 t59 (λ_ h=>h.get 2 rfl) H b ?_;try simp only[qQ]
       refine Cf 2 [(2,89,Qa (Ns i)),(5,92,Qa (Ns ag)),(6,93,Qa (Ns Q3))] b ⟨vc H5,vc L4,vm (λu c=>dC 61 _ rfl [(0,Qa (Ns y)),(1,Qa (Ns Y)),(2,Qa (Ns i)),(3,Qa (Ns ag))] kr _ (B3.out c))⟩ (λF en a=>?_);clear b;simp only[kf,Qm,Qn,Qj,Qk,qQ];refine ltW 7 3 a Qq c1 A (aK _) (λeo a=>?_);refine eF 8 λK g=>?_
       go_simp;refine g.out _ _ ?_;clear g K;refine aC ?_;go_wp2;refine Qx (v:=Qd #[Qa (Ns Q3),Qc true]) ?_ rfl ⟨by rw[(v2.out z.out (by trivial) (by trivial)).1 T.out],a.below⟩;exact gK rfl _ _ w.heap.size 61 _ (0,0) _ (Qc true) rfl rfl (a.get 3 rfl) QD rfl (by rw[c1];exact Qq)
      .have ax:=beq_eq_false_iff_ne.mpr T;go_wp2_with fail;refine rgS [3] a.drew (λew b=>?_);clear a;refine ar 1 80 t59 (λ_ h=>h.get 0 rfl) P b ?_;try simp only[qQ]
       refine Cf 1 [(0,79,Qa (Ns O0)),(2,81,Qa (Ns L))] b ⟨vc K0,vc L2⟩ (λF ey j=>?_);clear b;simp only[kf,Qm,Qn,Qj,Qk,qQ];refine ltW 3 0 j Qt a6 P (aK _) (λez j=>?_);refine aC ?_;have a:=j;clear j;go_wp2_with (first
        |(refine ldW 0 a twN a6 ?_))
       refine gvW a L3 (λd6 a=>?_);by_cases ap:a3=r
       .replace ap:=Qh ap;rw[ap.out];go_wp2_with fail;refine rgS [7,8] a.drew (λer b=>?_);clear a;refine ar 0 87 t59 (λ_ h=>h.get 0 rfl) a6 b ?_;refine ar 1 88 t59 (λ_ h=>h.get 2 rfl) H b ?_;refine ar 3 90 t59 (λ_ h=>h.get 0 rfl) a6 b ?_;simp only[qQ];refine ar 4 91 t59 (λ_ h=>h.get 2 rfl) H b ?_;try simp only[qQ]
        refine Cf 2 [(2,89,Qa (Ns i)),(5,92,Qa (Ns ad)),(6,93,Qa (Ns Q4))] b ⟨vc H5,vc L5,vm (λu c=>dC 61 _ rfl [(0,Qa (Ns L)),(1,Qa (Ns Y)),(2,Qa (Ns i)),(3,Qa (Ns ad))] kr _ (B4.out c))⟩ (λF es a=>?_);clear b;simp only[kf,Qm,Qn,Qj,Qk,qQ];refine ltW 7 3 a Qq c2 A (aK _) (λet a=>?_);refine eF 8 λK g=>?_
        go_simp;refine g.out _ _ ?_;clear g K;refine aC ?_;go_wp2;refine Qx (v:=Qd #[Qa (Ns Q4),Qc true]) ?_ rfl ⟨by rw[(v2.out z.out (by trivial) (by trivial)).2.1 T ap.out],a.below⟩;exact gK rfl _ _ w.heap.size 61 _ (0,0) _ (Qc true) rfl rfl (a.get 3 rfl) QD rfl (by rw[c2];exact Qq)
       .have c9:=beq_eq_false_iff_ne.mpr ap;have ge:=a.gt 3 rfl;go_wp2_with (first
         |(refine iA rfl 61 _ rfl [] rfl _ (ah.out _) ?_)
         |(refine Qy rfl 61 _ _ rfl w.heap.size _ rfl rfl 61 _ ge (by rw[A];exact Qq) rfl (aK _) ?_))
        have C:=a.over 3 rfl (Ns q);refine Qx (v:=Qd #[Qa (Ns q),Qc false]) ?_ rfl ⟨by rw[(v2.out z.out (by trivial) (by trivial)).2.2 T ap],C.below⟩;exact gK rfl _ _ w.heap.size 61 _ (0,0) _ (Qc false) rfl rfl (C.get 3 rfl) QD rfl (by rw[A];exact Qq)
     |false=>
      have ge:=a.gt 3 rfl;go_wp2_with (first
       |(refine iA rfl 61 _ rfl [] rfl _ (ah.out _) ?_)
       |(refine Qy rfl 61 _ _ rfl w.heap.size _ rfl rfl 61 _ ge (by rw[A];exact Qq) rfl (aK _) ?_))
      have C:=a.over 3 rfl (Ns q);refine Qx (v:=Qd #[Qa (Ns q),Qc false]) ?_ rfl ⟨by rw[v3.out z.out (by trivial) (by trivial)],C.below⟩;exact gK rfl _ _ w.heap.size 61 _ (0,0) _ (Qc false) rfl rfl (C.get 3 rfl) QD rfl (by rw[A];exact Qq)
 .have ax:=Wa z;refine ae 4 32 (v:=Qc true) hT ?_;try simp only[qQ]
  have a:=hT.1;clear hT;refine aC ?_;have ge:=a.gt 1 rfl;go_wp2_with (first
   |(refine iA rfl 61 _ rfl [] rfl _ (ah.out _) ?_)
   |(refine Qy rfl 61 _ _ rfl w.heap.size _ rfl rfl 61 _ ge (by rw[A];exact Qq) rfl (aK _) ?_))
  have C:=a.over 1 rfl (Ns q);refine Qx (v:=Qd #[Qa (Ns q),Qc false]) ?_ rfl ⟨by rw[v0.out z],C.below⟩;exact gK rfl _ _ w.heap.size 61 _ (0,0) _ (Qc false) rfl rfl (C.get 1 rfl) QD rfl (by rw[A];exact Qq)
end Go.Proofs.YtclpbaokadfhhaaGreatDoor
