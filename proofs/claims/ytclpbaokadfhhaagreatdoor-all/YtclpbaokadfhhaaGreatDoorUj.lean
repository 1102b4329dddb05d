import Derived.Test.YtclpbaokadfhhaaGreatDoorUi
import Derived.Test.YtclpbaokadfhhaaGreatDoorUh
set_option maxRecDepth 100000
set_option maxHeartbeats 4000000
open Go.Value renaming string->Qa,slice->Qc,int->Qd,pointer->Qe,tuple->Qf,agg->Qg,bool->Qi,oneCell'->Qj
open Go.Proofs.Tryz renaming prog->Qk,ntmps14->Qm,results32->Qn,func14->Qo,ntmps66->Qp,func66->Qq
open Go renaming World->Qt,Calls->Qx,leaves_cons->Qy,below_setRow->Qz,Value->QA,results->QB,asAddr->QC,Leaves->QD,undef->QE
open Go.Obj renaming cells->QF
open Go.RowKit renaming Below->QG
open Go.IntKind renaming i64->QH
open Go.Ending renaming returned->QI
open ByteArray renaming size_extract->QJ
open List renaming find?_range_eq_some->QM,mem_range->QN
open Or renaming inr->QO,inl->QP
namespace Go.Proofs.YtclpbaokadfhhaaGreatDoor
open Go.RowKit
open Blk renaming new->QL
theorem Yg(K:Nat->BitVec 64)(d SE f c a b:Qb)(g n:Nat)(w:Qt)(k:SE.size=32)(h2:a.size<=100000)(l:b.size=64)(j:Tab K w)
  (o:jM (aj K) SE.data.toList a.data.toList b.data.toList=false):
  Qx Qk 65 #[Qg (prt d (Qc (some ⟨g,0,none⟩) n n) SE f c a b)] w λe w'=>e=.panicked (pnc 6)/\QG w.heap.size w w':=by
 have q:=Qh λB h=>by
  have:=La K SE a b B k h2 l h;rw[o]at this;exact this
 have p:=sk 6;have m:Blk (w.alloc (QF (prt d (Qc (some ⟨g,0,none⟩) n n) SE f c a b) 84)) w.heap.size (prt d (Qc (some ⟨g,0,none⟩) n n) SE f c a b) 84:=QL _ _ _;have i:QG w.heap.size w (w.alloc (QF (prt d (Qc (some ⟨g,0,none⟩) n n) SE f c a b) 84)):=bR.alloc nR _;obtain⟨r,s,t,u,v,x,y⟩:=p6 m;have A:=r9 d (Qc (some ⟨g,0,none⟩) n n) SE f c a b;generalize (prt d (Qc (some ⟨g,0,none⟩) n n) SE f c a b)=C at m i r s t u v x y A|-;replace j:=Qh (j.below i);clear o k h2 l;go_enter Tryz.func65,Tryz.ntmps65;go_wp2_with fail;refine mo (q.out _ j.out) λD z=>?_;go_wp2_with fail;refine(p.out _).mono ?_;rintro e E ⟨rfl,rfl⟩;go_wp2;exact⟨rfl,rfl,i.trans (z.mono i.size)⟩
theorem aai(K:Nat->BitVec 64)(j SE f d l m p:Qb)(o n:Nat)(w:Qt)(A:f.size<=100000)(h2:d.size<=100000)(B:16<=d.size)(C:p.size<=1000)(D:Tab K w)
  (E:cG (cn K p) aT f d=false):
  Qx Qk 67 #[Qg (prt j (Qc (some ⟨o,0,none⟩) n n) SE f d l m),Qa p] w λe w'=>e=.panicked (pnc 3)/\QG w.heap.size w w':=by
 have u:=Qh λg h=>Ei K p g C h
 have z:Hid (Rv 61 #[Qa (cn K p),Qa ⟨#[0,0,0,0,0,0,0,0,0,0,0,0]⟩,Qa f,Qa d] (Qf #[Qa ⟨#[]⟩,Qi false])):=λg=>by
  have:=p8 (cn K p) aT f d g (tc K p) rfl A h2 B;rw[E,if_neg dd]at this;exact this
 have G:=sk 3;have c:(λy=>Blk y w.heap.size (prt j (Qc (some ⟨o,0,none⟩) n n) SE f d l m) 84/\Tab K y/\QG w.heap.size w y) (w.alloc (QF (prt j (Qc (some ⟨o,0,none⟩) n n) SE f d l m) 84)):=⟨QL _ _ _,D.below (bR.alloc nR _),bR.alloc nR _⟩;have x:Hid (∀a b:Qt,(λy=>Blk y w.heap.size (prt j (Qc (some ⟨o,0,none⟩) n n) SE f d l m) 84/\Tab K y/\QG w.heap.size w y) a->QG a.heap.size a b->(λy=>Blk y w.heap.size (prt j (Qc (some ⟨o,0,none⟩) n n) SE f d l m) 84/\Tab K y/\QG w.heap.size w y) b):=λa b h k=>⟨h.1.keep k,h.2.1.below k,h.2.2.trans (k.mono h.2.2.size)⟩
 generalize cn K p=Q at u z;have R:=r9 j (Qc (some ⟨o,0,none⟩) n n) SE f d l m;clear E A h2 B C D;go_enter Tryz.func67,Tryz.ntmps67;go_wp2_with fail;generalize w.alloc (QF (prt j (Qc (some ⟨o,0,none⟩) n n) SE f d l m) 84)=F at c|-;refine bu (S:=(λy=>Blk y w.heap.size (prt j (Qc (some ⟨o,0,none⟩) n n) SE f d l m) 84/\Tab K y/\QG w.heap.size w y)) (ls:=[]) kr ?_;have t:(λy=>Blk y w.heap.size (prt j (Qc (some ⟨o,0,none⟩) n n) SE f d l m) 84/\Tab K y/\QG w.heap.size w y) F.drew:=⟨c.1.drew,c.2.1,c.2.2.drew⟩;clear c;generalize F.drew=Z at t|-;have c:=t;clear t;refine ae 0 8 c ?_;refine ae 2 10 c ?_;simp only[qQ];refine ac 3 11 (v:=Qa f) c ?_ ?_
 ·(intro g q;obtain⟨I,J,L,M,N,O,P⟩:=p6 q.1;clear q;go_simp;try (with_reducible rfl))
 refine ae 4 12 c ?_;simp only[qQ];refine ac 5 13 (v:=Qa d) c ?_ ?_
 ·(intro g q;obtain⟨I,J,L,M,N,O,P⟩:=p6 q.1;clear q;go_simp;try (with_reducible rfl))
 simp only[qQ];refine ip (i:=1) kr rfl (λs r=>?_);go_simp;go_wp2_with (go_at_call 55;refine mo (u.out _ c.2.1) λT kk=>?_);replace c:=x.out _ _ c kk;refine r.out _ _ c ?_;try simp only[qQ]
 clear r s kk;refine ip (i:=6) kr rfl (λs r=>?_);go_simp;go_wp2_with (go_at_call 61;refine gv z λW kk=>?_);replace c:=x.out _ _ c kk;refine r.out _ _ c ?_;try simp only[qQ]
 clear r s kk;refine ac 7 7 (v:=Qf #[Qa ⟨#[]⟩,Qi false]) c ?_ ?_
 .exact λg _=>rfl
 refine ac 8 15 (v:=Qa ⟨#[]⟩) c ?_ ?_
 .exact λg _=>rfl
 refine ac 9 16 (v:=Qi false) c ?_ ?_
 .exact λg _=>rfl
 try simp only[qQ]
 refine ac 10 5 (v:=Qa ⟨#[]⟩) c ?_ ?_
 .exact λg _=>rfl
 refine ac 11 6 (v:=Qi false) c ?_ ?_
 .exact λg _=>rfl
 try simp only[qQ]
 refine aC ?_;go_wp2_with fail;refine(G.out _).mono ?_;rintro e X ⟨rfl,rfl⟩;have H:=c.2.2;clear c;go_wp2;exact⟨rfl,rfl,H⟩
theorem Yb(K:Nat->BitVec 64)(d SE m i j l g:Qb)(c:List ByteArray)(f n t:Nat)(w:Qt)(u:g.size=32)(s:d.size=32)(I:n=c.length)(q:Blk w f (Ss c) t)(r:Tab K w)(v:nV g d=false):
  Qx Qk 66 #[Qg (prt d (Qc (some ⟨f,0,none⟩) n n) SE m i j l),Qa g] w λe w'=>e=.panicked (pnc 2)/\QG w.heap.size w w':=by
 subst I;have p:Hid (Rv 29 #[Qa g,Qa d] (Qf #[Qa (cf g d),Qi false])):=λJ=>by
  have:=zl g d J u s;rw[show (!(ix g.data.toList d.data.toList==aq 32))=false from v]at this;exact this
 have z:=sk 2;have M:=q.lt;have o:(λy=>Blk y w.heap.size (prt d (Qc (some ⟨f,0,none⟩) c.length c.length) SE m i j l) 84/\Tab K y/\QG w.heap.size w y/\Blk y f (Ss c) t) (w.alloc (QF (prt d (Qc (some ⟨f,0,none⟩) c.length c.length) SE m i j l) 84)):=⟨QL _ _ _,r.below (bR.alloc nR _),bR.alloc nR _,q.alloc _⟩;have A:Hid (∀a b:Qt,(λy=>Blk y w.heap.size (prt d (Qc (some ⟨f,0,none⟩) c.length c.length) SE m i j l) 84/\Tab K y/\QG w.heap.size w y/\Blk y f (Ss c) t) a->QG a.heap.size a b->(λy=>Blk y w.heap.size (prt d (Qc (some ⟨f,0,none⟩) c.length c.length) SE m i j l) 84/\Tab K y/\QG w.heap.size w y/\Blk y f (Ss c) t) b):=λa b h k=>⟨h.1.keep k,h.2.1.below k,h.2.2.1.trans (k.mono h.2.2.1.size),h.2.2.2.keep k⟩
 generalize cf g d=L at p;have N:=r9 d (Qc (some ⟨f,0,none⟩) c.length c.length) SE m i j l;clear u s v r q;obtain⟨B,C,D,E,F,G,H⟩:=p6 o.1;go_enter Qq,Qp;go_wp2_with fail;clear B C D E F G H;generalize w.alloc (QF (prt d (Qc (some ⟨f,0,none⟩) c.length c.length) SE m i j l) 84)=Q at o|-;refine gv p λO x=>?_
 replace o:=A.out _ _ o x;clear x p;go_wp2_with fail;refine(z.out _).mono ?_;rintro e P ⟨rfl,rfl⟩;go_wp2;exact⟨rfl,rfl,o.2.2.1⟩
theorem Yc(K:Nat->BitVec 64)(d SE q m o p g:Qb)(c:List ByteArray)(j n t:Nat)(w:Qt)(Q:g.size=32)(P:d.size=32)(hn:n=c.length)(ao:n<=8)(R:∀i,i<n->(aM c i).size=48)(N:Blk w j (Ss c) t)(X:Tab K w)(hu:nV g d=true)
  (Z:∀i,i<n->cG (eJ K (cf g d) d (aS g)) aT ⟨#[]⟩ (aM c i)=false):
  Qx Qk 66 #[Qg (prt d (Qc (some ⟨j,0,none⟩) n n) SE q m o p),Qa g] w λe w'=>e=.panicked (pnc 7)/\QG w.heap.size w w':=by
 subst hn;have L:Hid (Rv 29 #[Qa g,Qa d] (Qf #[Qa (cf g d),Qi true])):=λl=>by
  have:=zl g d l Q P;rw[show (!(ix g.data.toList d.data.toList==aq 32))=true from hu]at this;exact this
 have J:Hid (Rv 25 #[Qa g] (Qa (aS g))):=λl=>Dc g l Q
 have r:Hid (∀l:Qt,Tab K l->Rw 118 #[Qa (cf g d),Qa d,Qa (aS g)] l (Qa (eJ K (cf g d) d (aS g)))):=λl h=>Cv K _ _ _ l (ub _ _) P (nN _) h
 have A:Hid (∀(l:Qt) (i:Nat),i<c.length->Rw 61 #[Qa (eJ K (cf g d) d (aS g)),Qa ⟨#[0,0,0,0,0,0,0,0,0,0,0,0]⟩,Qa ⟨#[]⟩,Qa (aM c i)] l (Qf #[Qa ⟨#[]⟩,Qi false])):=λl i hi=>by
  have:=p8 (eJ K (cf g d) d (aS g)) aT ⟨#[]⟩ (aM c i) l (rU K _ _ _) rfl dd (by rw[R i oo];omega) (by rw[R i oo];omega);rw[Z i hi,if_neg dd]at this;exact this
 have T:=Af 2;have ap:=N.lt;have f:(λy=>Blk y w.heap.size (prt d (Qc (some ⟨j,0,none⟩) c.length c.length) SE q m o p) 84/\Tab K y/\QG w.heap.size w y/\Blk y j (Ss c) t) (w.alloc (QF (prt d (Qc (some ⟨j,0,none⟩) c.length c.length) SE q m o p) 84)):=⟨QL _ _ _,X.below (bR.alloc nR _),bR.alloc nR _,N.alloc _⟩;have s:Hid (∀a b:Qt,(λy=>Blk y w.heap.size (prt d (Qc (some ⟨j,0,none⟩) c.length c.length) SE q m o p) 84/\Tab K y/\QG w.heap.size w y/\Blk y j (Ss c) t) a->QG a.heap.size a b->(λy=>Blk y w.heap.size (prt d (Qc (some ⟨j,0,none⟩) c.length c.length) SE q m o p) 84/\Tab K y/\QG w.heap.size w y/\Blk y j (Ss c) t) b):=λa b h k=>⟨h.1.keep k,h.2.1.below k,h.2.2.1.trans (k.mono h.2.2.1.size),h.2.2.2.keep k⟩
 generalize eJ K (cf g d) d (aS g)=KY at r A;generalize cf g d=AG at L r;generalize aS g=PU at J r;have sP:=r9 d (Qc (some ⟨j,0,none⟩) c.length c.length) SE q m o p;clear Z Q P R hu X N;obtain⟨B,C,D,E,F,G,H⟩:=p6 f.1;go_enter Qq,Qp;go_wp2_with fail;clear B C D E F G H;generalize w.alloc (QF (prt d (Qc (some ⟨j,0,none⟩) c.length c.length) SE q m o p) 84)=wa at f|-;refine gv L λw1 k1=>?_
 replace f:=s.out _ _ f k1;clear k1 L;go_wp2_with fail;refine(T.out _).mono ?_;rintro e ab ⟨rfl,rfl⟩;go_wp2_with fail;refine bu (S:=(λy=>Blk y w.heap.size (prt d (Qc (some ⟨j,0,none⟩) c.length c.length) SE q m o p) 84/\Tab K y/\QG w.heap.size w y/\Blk y j (Ss c) t)) (ls:=[]) kr ?_;have O:(λy=>Blk y w.heap.size (prt d (Qc (some ⟨j,0,none⟩) c.length c.length) SE q m o p) 84/\Tab K y/\QG w.heap.size w y/\Blk y j (Ss c) t) ab.drew:=⟨f.1.drew,f.2.1,f.2.2.1.drew,f.2.2.2.drew⟩;clear f;generalize ab.drew=wd at O|-;have f:=O;clear O;refine ae 0 22 f ?_;refine ae 1 23 f ?_;simp only[qQ];refine ac 2 24 (v:=Qa d) f ?_ ?_
 ·(intro l W;obtain⟨B,C,D,E,F,G,H⟩:=p6 W.1;clear W;go_simp;try (with_reducible rfl))
 refine ae 3 25 f ?_;simp only[qQ];refine ip (i:=4) kr rfl (λM z=>?_);go_simp;go_wp2_with (go_at_call 25;refine gv J λw3 kk=>?_);replace f:=s.out _ _ f kk;refine z.out _ _ f ?_;try simp only[qQ]
 clear z M kk;refine ip (i:=5) kr rfl (λM z=>?_);go_simp;go_wp2_with (go_at_call 118;refine mo (r.out _ f.2.1) λw4 kk=>?_);replace f:=s.out _ _ f kk;refine z.out _ _ f ?_;try simp only[qQ]
 clear z M kk;refine ac 6 8 (v:=Qa KY) f ?_ ?_
 .exact λl _=>rfl
 try simp only[qQ]
 refine aC ?_;clear J r T;obtain⟨B,C,D,E,F,G,H⟩:=p6 f.1;go_wp2_with fail;clear B C D E F G H;replace f:=Qh f;go_loopw [31] (λi wr=> ∃k:Nat,i=Qd QH k/\k<=c.length/\Hid ((λy=>Blk y w.heap.size (prt d (Qc (some ⟨j,0,none⟩) c.length c.length) SE q m o p) 84/\Tab K y/\QG w.heap.size w y/\Blk y j (Ss c) t) wr)) (λi _=>c.length-(intOf i).toNat)
 case atStart=>exact⟨0,rfl,oo,f⟩
 case round=>
  clear f;obtain⟨k,rfl,hk,x⟩:=hrel;by_cases an:k<c.length
  .have d1:(k:Int)<(c.length:Int):=oo
   have u:=x.out.2.2.2.cell k;rw[xw _ _ oo]at u;replace u:wr.cell? ⟨j,k,none⟩=some (Qa (aM c k)):=u;have I:=Qh (A.out wr k an);clear A;generalize aM c k=SH at u I;go_wp2_with fail;refine I.out.mono ?_;rintro e w5 ⟨rfl,k5⟩;have ag:=Qh (s.out _ _ x.out k5);clear x k5 u I;go_wp2_with fail;go_roundw
   case rel=>exact⟨k+1,gn,oo,ag⟩
   case measure=>simp[intOf];omega
  .have ah:k=c.length:=oo
   subst ah;have d1:decide ((c.length:Int)<(c.length:Int))=false:=decide_eq_false oo;have ad:=x.out.2.2.1;clear x A s;go_wp2;exact⟨rfl,rfl,ad⟩
theorem X9(x:Int)(w:Qt):
  Rw 63 #[.iface 133 (Qg #[Qd QH x])] w (Qd QH x):=by
 have b:∀a:Qt,(Instr.typeAssert (.iface 133 (Qg #[Qd QH x])) 20 133 true).run Qk a=.ok (Qf #[Qg #[Qd QH x],Qi true]) a:=λa=>kr
 go_enter Tryz.func63,Tryz.ntmps63;go_wp2;go_ret;exact⟨rfl,bR.alloc nR _⟩
theorem X8(a b:Nat)(x:Int)(w:Qt)(A:Array QA)(y:Int)(j:Blk w a A 34)(h2:Blk w b #[Qd QH y] 27)(k:A.size=3)(l:a≠b):
  CallsD Qk 62 #[Qe (some ⟨a,0,none⟩),Qe (some ⟨b,0,none⟩)] (.panicking (pnc x)) w λe o w'=>e=QI (Qf #[])/\o=.panicking [{v:=.iface 133 (Qg #[Qd QH x]),recovered:=true}]/\ ∃c,QG w.heap.size w c/\w'=(c.setRow a none34).setCell ⟨b,0,none⟩ (Qd QH x):=by
 have i:=Qr (X9 x)
 refine callsD_of_wpS Tryz.func62 rfl λr q h=>?_
 apply wpS_seq
 apply wpS_region
 simp only[pnc]at h;simp[wpOpsS,go_sem,recoverD,h,Tryz.ntmps62,Exit.thenS];refine wpS_of_wp ?_;show Code.wp _ _ _ {tmps:=#[Qe (some ⟨a,0,none⟩),Qe (some ⟨b,0,none⟩),.iface 133 (Qg #[Qd QH x]),.iface 133 (Qg #[Qd QH x]),QE,QE,QE,QE,QE],defers:=[]} w
 have n:none34.size=3:=rfl;have m:none34.all (·.oneCell')=true:=by simp[none34,Qj]
 go_wp2_with fail;refine gv i λc d=>?_
 have f:=j.keep d;have g:=(h2.keep d).other (Ne.symm l) none34;have p:=g.cell 0;have s:=g.frozen 0;unfold Blk at f;rw[show (#[Qa ⟨#[]⟩,Qa ⟨#[]⟩,Qd QH 0]:Array QA)=none34 from rfl];go_wp2_with (refine st t34 rfl rfl a rfl rfl f n k m ?_);refine⟨rfl,_,rfl,Qf #[],?_,rfl,rfl,c,d,rfl⟩;simp[QB,Tryz.results62]
theorem Ae(x:Int)(w a:Qt)(Z:Array QA)(j:Z.size=3)(d:Blk a w.heap.size Z 34)(h2:Blk a (w.heap.size+1) #[Qd QH 0] 27)(f:QG w.heap.size w a):
  CallsD Qk 62 #[Qe (some ⟨w.heap.size,0,none⟩),Qe (some ⟨w.heap.size+1,0,none⟩)] (.panicking (pnc x)) a λe g w'=>e=QI (Qf #[])/\g=.panicking [{v:=.iface 133 (Qg #[Qd QH x]),recovered:=true}]/\
   w'.cell? ⟨w.heap.size,0,none⟩=some (Qa ⟨#[]⟩)/\w'.cell? ⟨w.heap.size,1,none⟩=some (Qa ⟨#[]⟩)/\w'.cell? ⟨w.heap.size,2,none⟩=some (Qd QH 0)/\w'.cell? ⟨w.heap.size+1,0,none⟩=some (Qd QH x)/\QG w.heap.size w w':=by
 refine(X8 _ _ x a _ 0 d h2 j oo).mono ?_;rintro e g l ⟨rfl,rfl,k,c,rfl⟩;have h:=(d.keep c).row none34;have i:=((h2.keep c).other (b':=w.heap.size) oo none34).setAt 0 (Qd QH x) rfl;have b:Blk ((k.setRow w.heap.size none34).setCell ⟨w.heap.size+1,0,none⟩ (Qd QH x)) w.heap.size none34 34:=h.below ((Below.refl (w.heap.size+1) _).setCell (p:=⟨w.heap.size+1,0,none⟩) nR _) oo;exact⟨rfl,rfl,b.cell 0,b.cell 1,b.cell 2,i.cell 0,(Qz (f.trans (c.mono f.size)) (Nat.le_refl w.heap.size) none34).setCell (p:=⟨w.heap.size+1,0,none⟩) (by show _<=w.heap.size+1;omega) _⟩
def kh(x:Int):QA:=Qf #[Qg #[Qa ⟨#[]⟩,Qa ⟨#[]⟩,Qd QH 0],Qd QH x]
theorem aao(K:Nat->BitVec 64)(a2 L q SE t o r s:Qb)(M:List ByteArray)(n:Nat)(I:QA)(T GC:Prop)(GI:ByteArray->Nat->Prop)(w:Qt)(hK:Tab K w)(bi:SE.size<=1000)
  (HP:Hid (∀d:Qt,Qx Qk 64 #[Qa L] d λe w'=>((∃b:Nat,T/\e=QI (Qg (prt q (Qc (some ⟨b,0,none⟩) n n) SE t o r s))/\Blk w' b (Ss M) 9)\/(e=.panicked (pnc 5)/\I=kh 5))/\QG d.heap.size d w'))
  (HC:Hid (∀(d:Qt) (b:Nat),T->Tab K d->Qx Qk 65 #[Qg (prt q (Qc (some ⟨b,0,none⟩) n n) SE t o r s)] d λe w'=>((GC/\e=QI (Qf #[]))\/(e=.panicked (pnc 6)/\I=kh 6))/\QG d.heap.size d w'))
  (HI:Hid (∀(d:Qt) (b:Nat),T->GC->Tab K d->Blk d b (Ss M) 9->Qx Qk 66 #[Qg (prt q (Qc (some ⟨b,0,none⟩) n n) SE t o r s),Qa a2] d λe w'=>((∃(D:ByteArray) (j:Nat),GI D j/\e=QI (Qf #[Qa D,Qd QH (j:Int)]))\/(∃x:Int,e=.panicked (pnc x)/\I=kh x))/\QG d.heap.size d w'))
  (HD:Hid (∀(d:Qt) (b:Nat) (D:ByteArray) (j:Nat),T->GI D j->Tab K d->Qx Qk 67 #[Qg (prt q (Qc (some ⟨b,0,none⟩) n n) SE t o r s),Qa D] d λe w'=>((∃z:ByteArray,e=QI (Qa z)/\I=Qf #[Qg #[Qa z,Qa SE,Qd QH (j:Int)],Qd QH 0])\/(e=.panicked (pnc 3)/\I=kh 3))/\QG d.heap.size d w')):
  Qx Qk 32 #[Qa a2,Qa L] w λe w'=>e=QI I/\QG w.heap.size w w':=by
 have bk:∀(fn:Fn) (first cap:Array QA) (w:Qt),(Instr.makeFunc fn first cap).run Qk w=.ok (.func fn first cap) w:=λ_ _ _ _=>rfl
 have hz:=DR;have bd:=UW;have ax:=Qr λd=>aap SE d oo
 generalize a5:none34=Z at hz;generalize a6:Ny=N at bd;have S:Z.size=3:=by rw[<-a5];rfl
 have bh:N.size=7:=by rw[<-a6];rfl
 have i:Blk ((w.alloc (QF Z 34)).alloc (QF #[Qd QH 0] 27)) w.heap.size Z 34/\Blk ((w.alloc (QF Z 34)).alloc (QF #[Qd QH 0] 27)) (w.heap.size+1) #[Qd QH 0] 27/\QG w.heap.size w ((w.alloc (QF Z 34)).alloc (QF #[Qd QH 0] 27)):=
  ⟨(QL _ _ _).alloc _,by have:=QL (w.alloc (QF Z 34)) #[Qd QH 0] 27;rw[show (w.alloc (QF Z 34)).heap.size=w.heap.size+1 by simp]at this;exact this,(bR.alloc nR _).alloc ss _⟩
 go_enter_defers Tryz.func32,Tryz.ntmps32
 go_wp2_with fail;generalize (w.alloc (QF Z 34)).alloc (QF #[Qd QH 0] 27)=wa at i|-;have az:=hK.below i.2.2;refine(HP.out _).mono ?_;rintro e m ⟨⟨g,an,rfl,P⟩|⟨rfl,a8⟩,B⟩;rotate_left
 .replace i:=(⟨i.1.keep B,i.2.1.keep B,i.2.2.trans (B.mono i.2.2.size)⟩:Blk m w.heap.size Z 34/\Blk m (w.heap.size+1) #[Qd QH 0] 27/\QG w.heap.size w m);go_wp2_with fail;show QD _ _ _ _ [_] (.panicking (pnc 5)) _
  refine Qy (f:=62) (args:=#[Qe (some ⟨w.heap.size,0,none⟩),Qe (some ⟨w.heap.size+1,0,none⟩)]) ss (by simp[go_sem]) ?_;refine(Ae 5 w _ Z S i.1 i.2.1 i.2.2).mono ?_;rintro e u' ab ⟨rfl,rfl,E,F,G,v,u⟩;refine⟨kh 5,?_,by rw[a8],u⟩;simp[kh,QB,Qn,QC,go_sem,v,E,F,G]
 have a1:=Nat.lt_of_lt_of_le i.2.1.lt B.size;have bb:=P.lt;have R:=r9 q (Qc (some ⟨g,0,none⟩) n n) SE t o r s;have oP:=Sv q g n SE t o r s;have W:=QL m N 84;have O:=W.row (prt q (Qc (some ⟨g,0,none⟩) n n) SE t o r s);have J:QG m.heap.size m ((m.alloc (QF N 84)).setRow m.heap.size (prt q (Qc (some ⟨g,0,none⟩) n n) SE t o r s)):=Qz (bR.alloc nR _) nR _;have c:∀l,l=m.heap.size->(λy:Qt=>Blk y w.heap.size Z 34/\Blk y (w.heap.size+1) #[Qd QH 0] 27/\QG w.heap.size w y/\Blk y g (Ss M) 9/\Tab K y/\Blk y l (prt q (Qc (some ⟨g,0,none⟩) n n) SE t o r s) 84/\w.heap.size+1<l/\l≠g) ((m.alloc (QF N 84)).setRow m.heap.size (prt q (Qc (some ⟨g,0,none⟩) n n) SE t o r s)):=λl hr=>by
  subst hr;exact⟨(i.1.keep B).keep J,(i.2.1.keep B).keep J,(i.2.2.trans (B.mono i.2.2.size)).trans (J.mono (by have:=i.2.2.size;have:=B.size;omega)),P.keep J,(az.below B).below J,O,a1,oo⟩
 obtain⟨l,ao⟩:∃l,l=m.heap.size:=⟨_,rfl⟩
 replace c:=c l ao;have C:Hid (∀a b:Qt,(λy:Qt=>Blk y w.heap.size Z 34/\Blk y (w.heap.size+1) #[Qd QH 0] 27/\QG w.heap.size w y/\Blk y g (Ss M) 9/\Tab K y/\Blk y l (prt q (Qc (some ⟨g,0,none⟩) n n) SE t o r s) 84/\w.heap.size+1<l/\l≠g) a->QG a.heap.size a b->(λy:Qt=>Blk y w.heap.size Z 34/\Blk y (w.heap.size+1) #[Qd QH 0] 27/\QG w.heap.size w y/\Blk y g (Ss M) 9/\Tab K y/\Blk y l (prt q (Qc (some ⟨g,0,none⟩) n n) SE t o r s) 84/\w.heap.size+1<l/\l≠g) b):=λa b h k=>⟨h.1.keep k,h.2.1.keep k,h.2.2.1.trans (k.mono h.2.2.1.size),h.2.2.2.1.keep k,h.2.2.2.2.1.below k,h.2.2.2.2.2.1.keep k,h.2.2.2.2.2.2⟩
 clear i az hK HP B J P bb a1;have ad:=Qh λd h=>HC.out d g an h
 have ah:=Qh λd Q h P=>HI.out d g an Q h P
 have ag:=Qh λd D j Q h=>HD.out d g D j an Q h
 clear HC HI HD;have c2:Hid ((prt q (Qc (some ⟨g,0,none⟩) n n) SE t o r s)[2]? =some (Qa SE)):=rfl;generalize (prt q (Qc (some ⟨g,0,none⟩) n n) SE t o r s)=PP at O c R oP C ad ah ag c2|-;unfold Blk at W O;go_wp2_with (first
  |(refine st t84 rfl rfl m.heap.size rfl rfl W R bh oP ?_)
  |(refine ld t84 rfl rfl m.heap.size rfl O R ?_))
 clear W O;generalize (m.alloc (QF N 84)).setRow m.heap.size PP=w2 at c|-;rw[<-ao];clear ao;refine(ad.out _ c.2.2.2.2.1).mono ?_;rintro e w3 ⟨⟨a3,rfl⟩|⟨rfl,a9⟩,k3⟩;rotate_left
 .replace c:=C.out _ _ c k3;go_wp2_with fail;show QD _ _ _ _ [_] (.panicking (pnc 6)) _
  refine Qy (f:=62) (args:=#[Qe (some ⟨w.heap.size,0,none⟩),Qe (some ⟨w.heap.size+1,0,none⟩)]) ss (by simp[go_sem]) ?_;refine(Ae 6 w _ Z S c.1 c.2.1 c.2.2.1).mono ?_;rintro e u' ab ⟨rfl,rfl,E,F,G,v,u⟩;refine⟨kh 6,?_,by rw[a9],u⟩;simp[kh,QB,Qn,QC,go_sem,v,E,F,G]
 replace c:=C.out _ _ c k3;clear k3 ad;have H:=c.2.2.2.2.2.1;unfold Blk at H;go_wp2_with (refine ld t84 rfl rfl l rfl H R ?_);clear H;refine(ah.out _ a3 c.2.2.2.2.1 c.2.2.2.1).mono ?_;rintro e w4 ⟨⟨D,j,Q,rfl⟩|⟨x,rfl,ba⟩,k4⟩;rotate_left
 .replace c:=C.out _ _ c k4;go_wp2_with fail;show QD _ _ _ _ [_] (.panicking (pnc x)) _
  refine Qy (f:=62) (args:=#[Qe (some ⟨w.heap.size,0,none⟩),Qe (some ⟨w.heap.size+1,0,none⟩)]) ss (by simp[go_sem]) ?_;refine(Ae x w _ Z S c.1 c.2.1 c.2.2.1).mono ?_;rintro e u' ab ⟨rfl,rfl,E,F,G,v,u⟩;refine⟨kh x,?_,by rw[ba],u⟩;simp[kh,QB,Qn,QC,go_sem,v,E,F,G]
 replace c:=C.out _ _ c k4;clear k4 ah;have H:=c.2.2.2.2.2.1;unfold Blk at H;go_wp2_with (refine ld t84 rfl rfl l rfl H R ?_);clear H;refine(ag.out _ D j Q c.2.2.2.2.1).mono ?_;rintro e w5 ⟨⟨z,rfl,ap⟩|⟨rfl,a7⟩,k5⟩;rotate_left
 .replace c:=C.out _ _ c k5;go_wp2_with fail;show QD _ _ _ _ [_] (.panicking (pnc 3)) _
  refine Qy (f:=62) (args:=#[Qe (some ⟨w.heap.size,0,none⟩),Qe (some ⟨w.heap.size+1,0,none⟩)]) ss (by simp[go_sem]) ?_;refine(Ae 3 w _ Z S c.1 c.2.1 c.2.2.1).mono ?_;rintro e u' ab ⟨rfl,rfl,E,F,G,v,u⟩;refine⟨kh 3,?_,by rw[a7],u⟩;simp[kh,QB,Qn,QC,go_sem,v,E,F,G]
 replace c:=C.out _ _ c k5;replace ap:=Qh ap;clear k5 ag;have cs:=c.2.2.2.2.2.1.cell 2;rw[c2.out]at cs;go_wp2_with fail;clear cs;refine gv ax λw6 k6=>?_
 replace c:=C.out _ _ c k6;clear k6 ax C;have a0:∀d:Qt,(Instr.build 34 #[(0,Qa z),(1,Qa SE),(2,Qd QH (j:Int))]).run Qk d=.ok (Qg #[Qa z,Qa SE,Qd QH (j:Int)]) d:=λd=>run_build d _ _ _ kr
 have sR:(#[Qa z,Qa SE,Qd QH (j:Int)]:Array QA).size=3:=rfl;have oR:(#[Qa z,Qa SE,Qd QH (j:Int)]:Array QA).all (·.oneCell')=true:=by simp[Qj]
 generalize a4:(#[Qa z,Qa SE,Qd QH (j:Int)]:Array QA)=A at a0 sR oR;have g6:=c.1;have ay:=g6.row A;have g7:=(c.2.1.other (b':=w.heap.size) oo A).cell 0;have f7:=(c.2.1.other (b':=w.heap.size) oo A).frozen 0;have u:=Qz c.2.2.1 (Nat.le_refl w.heap.size) A;have g8:=(c.2.1.other (b':=w.heap.size) oo A).setAt 0 (Qd QH 0) rfl;have X:Blk ((w6.setRow w.heap.size A).setCell ⟨w.heap.size+1,0,none⟩ (Qd QH 0)) w.heap.size A 34:=ay.below ((Below.refl (w.heap.size+1) _).setCell (p:=⟨w.heap.size+1,0,none⟩) nR _) oo;replace u:QG w.heap.size w ((w6.setRow w.heap.size A).setCell ⟨w.heap.size+1,0,none⟩ (Qd QH 0)):=u.setCell (p:=⟨w.heap.size+1,0,none⟩) (by show _<=w.heap.size+1;omega) _;unfold Blk at g6;clear c ay;clear hz;go_wp2_with (first
  |(refine nG rfl 34 _ rfl [(0,Qa z),(1,Qa SE),(2,Qd QH (j:Int))] rfl A (a0 _) ?_)
  |(refine st t34 rfl rfl w.heap.size rfl rfl g6 sR S oR ?_))
 show QD _ _ _ _ [_] .returning _
 refine Qy (f:=62) (args:=#[Qe (some ⟨w.heap.size,0,none⟩),Qe (some ⟨w.heap.size+1,0,none⟩)]) ss (by simp[go_sem]) ?_;refine(abV _ _ _).mono ?_;rintro e u' ab ⟨rfl,rfl,rfl⟩;have v:=g8.cell 0;replace v:((w6.setRow w.heap.size A).setCell ⟨w.heap.size+1,0,none⟩ (Qd QH 0)).cell? ⟨w.heap.size+1,0,none⟩=some (Qd QH 0):=v;generalize (w6.setRow w.heap.size A).setCell ⟨w.heap.size+1,0,none⟩ (Qd QH 0)=w7 at X v u|-;subst a4;have E:w7.cell? ⟨w.heap.size,0,none⟩=some (Qa z):=X.cell 0;have F:w7.cell? ⟨w.heap.size,1,none⟩=some (Qa SE):=X.cell 1;have G:w7.cell? ⟨w.heap.size,2,none⟩=some (Qd QH (j:Int)):=X.cell 2;refine⟨Qf #[Qg #[Qa z,Qa SE,Qd QH (j:Int)],Qd QH 0],?_,by rw[ap.out],u⟩;simp[QB,Qn,QC,go_sem,v,E,F,G]
def rl(K:Nat->BitVec 64)(sec L:ByteArray):ByteArray:=eJ K (cf sec (L.extract 3 35)) (L.extract 3 35) (aS sec)
def lv(L:ByteArray)(j:Nat):ByteArray:=L.extract (36+48*j) (36+48*j+48)
def EI(K:Nat->BitVec 64)(sec L:ByteArray):Option Nat:=(List.range (bA L)).find? λj=>cG (rl K sec L) aT ⟨#[]⟩ (lv L j)
def kn(K:Nat->BitVec 64)(sec L:ByteArray)(j:Nat):ByteArray:=bQ (rl K sec L) aT (ev (lv L j))
def oS(L:ByteArray):ByteArray:=L.extract (36+48*bA L) (36+48*bA L+32)
def ox(L:ByteArray):ByteArray:=L.extract 0 (72+48*bA L)
def mZ(L:ByteArray):ByteArray:=L.extract (72+48*bA L) (72+48*bA L+(iq L+16))
def qD(L:ByteArray):ByteArray:=L.extract 0 (88+48*bA L+iq L)
def qz(L:ByteArray):ByteArray:=L.extract (88+48*bA L+iq L) (88+48*bA L+iq L+64)
def kU(K:Nat->BitVec 64)(sec L:ByteArray):ByteArray×ByteArray×Nat×Int:=
 if mI L then
  if jM (aj K) (oS L).data.toList (qD L).data.toList (qz L).data.toList=true then
   if nV sec (L.extract 3 35)=true then
    match EI K sec L with
    |some j=>if cG (cn K (kn K sec L j)) aT (ox L) (mZ L)=true then(bQ (cn K (kn K sec L j)) aT (ev (mZ L)),oS L,j,0)else (⟨#[]⟩,⟨#[]⟩,0,3)
    |none=>(⟨#[]⟩,⟨#[]⟩,0,7)
   else(⟨#[]⟩,⟨#[]⟩,0,2)
  else(⟨#[]⟩,⟨#[]⟩,0,6)
 else(⟨#[]⟩,⟨#[]⟩,0,5)
def BM(r:ByteArray×ByteArray×Nat×Int):QA:=Qf #[Qg #[Qa r.1,Qa r.2.1,Qd QH (r.2.2.1:Int)],Qd QH r.2.2.2]
theorem Wq(L:Qb)(i:Nat)(h:i<bA L):aM (ij L 36 (bA L) (bA L)) i=lv L i:=by
 unfold aM;rw[List.getD_eq_getElem?_getD,Ao _ _ _ _ _ h,if_pos h];rfl
theorem aan(K:Nat->BitVec 64)(l L:Qb)(w:Qt)(C:l.size=32)(N:Tab K w):
  Rw 32 #[Qa l,Qa L] w (BM (kU K l L)):=by
 have G:mI L->bA L<=8:=λh=>h.2.2.2.1
 have D:mI L->(L.extract 3 35).size=32/\(oS L).size=32/\(ox L).size<=12000/\(mZ L).size=iq L+16/\iq L<=10000/\(qD L).size<=12000/\(qz L).size=64/\ ∀i,i<bA L->(lv L i).size=48:=λh=>by
  obtain⟨a,_,c,d,e,f,g⟩:=h;unfold oS ox mZ qD qz lv;simp only[QJ];refine⟨?_,?_,?_,?_,f,?_,?_,λi n=>?_⟩<;>omega
 have t:=Wq L
 refine aao K l L (L.extract 3 35) (oS L) (ox L) (mZ L) (qD L) (qz L) (ij L 36 (bA L) (bA L)) (bA L) (BM (kU K l L)) (mI L) (jM (aj K) (oS L).data.toList (qD L).data.toList (qz L).data.toList=true)
  (λF j=>jM (aj K) (oS L).data.toList (qD L).data.toList (qz L).data.toList=true/\nV l (L.extract 3 35)=true/\EI K l L=some j/\F=kn K l L j) w N ?_ ?_ ?_ ?_ ?_
 .unfold oS;rw[QJ];omega
 .intro p;refine(Ya L p).mono ?_;rintro e w' ⟨⟨m,b,rfl,O⟩|⟨m,rfl⟩,k⟩
  .exact⟨QP ⟨b,m,rfl,O⟩,k⟩
  .refine⟨QO ⟨rfl,?_⟩,k⟩;unfold kU;rw[if_neg m];rfl
 .intro p b m q;obtain⟨v,z,H,I,J,M,A,x⟩:=D m;by_cases o:jM (aj K) (oS L).data.toList (qD L).data.toList (qz L).data.toList=true
  .refine mo (aak K _ _ _ _ _ _ b _ p z oo A q o) λw' k=>?_;exact⟨QP ⟨o,rfl⟩,k⟩
  .refine mo (Yg K _ _ _ _ _ _ b _ p z oo A q (by simpa using o)) λw' k=>?_;refine⟨QO ⟨rfl,?_⟩,k⟩;unfold kU;rw[if_pos m,if_neg o];rfl
 .intro p b m o q B;obtain⟨v,z,H,I,J,M,A,x⟩:=D m;by_cases r:nV l (L.extract 3 35)=true
  .cases s:EI K l L with
   |some j=>
    obtain⟨Q,R,E⟩:=QM.1 s;have u:=QN.1 R;refine mo (aah K _ _ _ _ _ _ l (kn K l L j) _ b _ j _ p C v (by rw[kM]) (G m) (λi n=>by rw[t i n];exact x i n) u B q r (by rw[t j u];exact Q) (λi n=>by rw[t i oo];show cG (rl K l L) _ _ _=false;simpa using E i n) (by rw[t j u];rfl)) λw' k=>?_;exact⟨QP ⟨_,j,⟨o,r,rfl,rfl⟩,rfl⟩,k⟩
   |none=>
    have E:=List.find?_range_eq_none.1 s;refine mo (Yc K _ _ _ _ _ _ l _ b _ _ p C v (by rw[kM]) (G m) (λi n=>by rw[t i n];exact x i n) B q r (λi n=>by rw[t i n];show cG (rl K l L) _ _ _=false;simpa using E i n)) λw' k=>?_;refine⟨QO ⟨7,rfl,?_⟩,k⟩;unfold kU;rw[if_pos m,if_pos o,if_pos r,s];rfl
  .refine mo (Yb K _ _ _ _ _ _ l _ b _ _ p C v (by rw[kM]) B q (by simpa using r)) λw' k=>?_;refine⟨QO ⟨2,rfl,?_⟩,k⟩;unfold kU;rw[if_pos m,if_pos o,if_neg r];rfl
 .intro p b F j m P q;obtain⟨o,r,s,rfl⟩:=P;obtain⟨v,z,H,I,J,M,A,x⟩:=D m;have u:=QN.1 (QM.1 s).2.1;have n:(kn K l L j).size<=1000:=by
   unfold kn;rw[rK];have:=x j u;unfold ev;rw[QJ];omega
  by_cases y:cG (cn K (kn K l L j)) aT (ox L) (mZ L)=true
  .refine mo (abW K _ _ _ _ _ _ (kn K l L j) _ b _ p oo oo oo n q y rfl) λw' k=>?_;refine⟨QP ⟨_,rfl,?_⟩,k⟩;unfold kU;rw[if_pos m,if_pos o,if_pos r,s];simp only[y,if_true];rfl
  .refine mo (aai K _ _ _ _ _ _ (kn K l L j) b _ p oo oo oo n q (by simpa using y)) λw' k=>?_;refine⟨QO ⟨rfl,?_⟩,k⟩;unfold kU;rw[if_pos m,if_pos o,if_pos r,s];simp only[y];rfl
def fK(K:Nat->BitVec 64)(adx:ByteArray)(R:List ByteArray)(adv data:ByteArray):ByteArray×Int:=
 if adx.size=32/\adv.size=64/\data.size<=10000 then
  if 1<=R.length/\R.length<=8 then fU K adx R adv data else(⟨#[]⟩,4)
 else(⟨#[]⟩,1)
def mv(K:Nat->BitVec 64)(sec L:ByteArray):ByteArray×ByteArray×Nat×Int:=
 if sec.size=32 then kU K sec L else(⟨#[]⟩,⟨#[]⟩,0,1)
theorem D5(s:Qb)(w:Qt)(d:s.size<=140737488351232)(b:Bool)(c:decide (¬s.size=32)=b):
  Hid (Qx Qk 24 #[Qc (some ⟨w.heap.size,0,none⟩) 1 1] (w.alloc (QF (Ss [s]) 9)) λe w'=>e=QI (Qi b)/\w'=w.alloc (QF (Ss [s]) 9)):=by
 have a:=nI s w d;rw[c]at a;exact a
theorem Lq(s d:Qb)(w:Qt)(g:d.size<=140737488351232)(b:Bool)(c:decide (10000<d.size)=b):
  Hid (Qx Qk 27 #[Qd QH 10000,Qc (some ⟨w.heap.size+1,0,none⟩) 1 1] ((w.alloc (QF (Ss [s]) 9)).alloc (QF (Ss [d]) 9)) λe w'=>e=QI (Qi b)/\w'=(w.alloc (QF (Ss [s]) 9)).alloc (QF (Ss [d]) 9)):=by
 have a:=lV (w.alloc (QF (Ss [s]) 9)).heap.size 1 10000 [d] 9 _ oo rfl oo (QL (w.alloc (QF (Ss [s]) 9)) _ _) (by intro j f;match j,f with|0,_=>show d.size<=_;omega);rw[qo,c,show (w.alloc (QF (Ss [s]) 9)).heap.size=w.heap.size+1 by simp]at a;exact a
theorem aaA(K:Nat->BitVec 64)(a c data:Qb)(R:List ByteArray)(z:Option Addr)(n cp:Nat)(w:Qt)(v:a.size<=140737488351232)(x:data.size<=140737488351232)(m:n=R.length)(E:n<=140737488355328)
  (j:1<=n-> ∃b,z=some ⟨b,0,none⟩/\SR w b R) (o:∀k,k<n->(aM R k).size<=140737488351232) (i:Tab K w):
  Rw 14 #[Qa a,Qc z n cp,Qa c,Qa data] w (Qf #[Qa (fK K a R c data).1,Qd QH (fK K a R c data).2]):=by
 have s:QG w.heap.size w (w.alloc (QF (Ss [a]) 9)):=bR.alloc nR _;have p:QG w.heap.size w ((w.alloc (QF (Ss [a]) 9)).alloc (QF (Ss [data]) 9)):=s.alloc ss _;by_cases f:a.size=32
 .have h:=D5 a w v false (by simp[f]);by_cases g:c.size=64
  .have A:(c.size:Int)=64:=oo
   by_cases l:data.size<=10000
   .have q:=Lq a data w x false (by simp;omega);by_cases u:1<=n/\n<=8
    .obtain⟨b,rfl,y⟩:=j u.1;have d:fK K a R c data=fU K a R c data:=by
      unfold fK;rw[if_pos ⟨f,g,l⟩,if_pos oo]
     rw[d];have r:=Qh (abX K a c data R b n cp _ f g l m u.1 u.2 ((y.alloc _).alloc _) o (i.below p));generalize (fU K a R c data).1=X at r|-;generalize (fU K a R c data).2=Y at r|-;have t:((n:Int)==0)=false:=by rw[beq_eq_false_iff_ne];omega
     have B:¬(8:Int)<(n:Int):=oo
     have D:¬(n:Int)=0:=oo
     clear f g l j i o m d y;go_enter Qo,Qm;go_wp2_with fail;refine h.out.mono ?_;rintro e w' ⟨rfl,rfl⟩;go_wp2_with fail;refine q.out.mono ?_;rintro e w' ⟨rfl,rfl⟩;go_wp2_with fail;refine r.out.mono ?_;rintro e F ⟨rfl,C⟩;go_wp2;go_ret2;exact⟨rfl,p.trans (C.mono p.size)⟩
    .have d:fK K a R c data=(⟨#[]⟩,4):=by
      unfold fK;rw[if_pos ⟨f,g,l⟩,if_neg oo]
     rw[d];by_cases h0:n=0
     .have t:(n:Int)=0:=oo
      clear f g l j i o m d;go_enter Qo,Qm;go_wp2_with fail;refine h.out.mono ?_;rintro e w' ⟨rfl,rfl⟩;go_wp2_with fail;refine q.out.mono ?_;rintro e w' ⟨rfl,rfl⟩;go_wp2;go_ret2;exact⟨rfl,p⟩
     .have t:((n:Int)==0)=false:=by rw[beq_eq_false_iff_ne];omega
      have B:(8:Int)<(n:Int):=oo
      clear f g l j i o m d;go_enter Qo,Qm;go_wp2_with fail;refine h.out.mono ?_;rintro e w' ⟨rfl,rfl⟩;go_wp2_with fail;refine q.out.mono ?_;rintro e w' ⟨rfl,rfl⟩;go_wp2;go_ret2;exact⟨rfl,p⟩
   .have q:=Lq a data w x true (by simp;omega);have d:fK K a R c data=(⟨#[]⟩,1):=by
     unfold fK;rw[if_neg oo]
    rw[d];clear f g l j i o m d;go_enter Qo,Qm;go_wp2_with fail;refine h.out.mono ?_;rintro e w' ⟨rfl,rfl⟩;go_wp2_with fail;refine q.out.mono ?_;rintro e w' ⟨rfl,rfl⟩;go_wp2;go_ret2;exact⟨rfl,p⟩
  .have A:((c.size:Int) !=64)=true:=by rw[bne_iff_ne];omega
   have t:¬(c.size:Int)=64:=oo
   have d:fK K a R c data=(⟨#[]⟩,1):=by
    unfold fK;rw[if_neg oo]
   rw[d];clear f g j i o m d;go_enter Qo,Qm;go_wp2_with fail;refine h.out.mono ?_;rintro e w' ⟨rfl,rfl⟩;go_wp2;go_ret2;exact⟨rfl,s⟩
 .have h:=D5 a w v true (by simp[f]);have d:fK K a R c data=(⟨#[]⟩,1):=by
   unfold fK;rw[if_neg oo]
  rw[d];clear f j i o m d;go_enter Qo,Qm;go_wp2_with fail;refine h.out.mono ?_;rintro e w' ⟨rfl,rfl⟩;go_wp2;go_ret2;exact⟨rfl,s⟩
theorem aaB(K:Nat->BitVec 64)(a L:Qb)(w:Qt)(k:a.size<=140737488351232)(g:Tab K w):
  Rw 17 #[Qa a,Qa L] w (BM (mv K a L)):=by
 by_cases h:a.size=32
 .unfold mv;rw[if_pos h];exact acf a L _ _ _ _ w h (λb c=>aan K a L b h (g.below c))
 .unfold mv;rw[if_neg h];have o:=DR;have j:Hid ((#[Qa ⟨#[]⟩,Qa ⟨#[]⟩,Qd QH 0]:Array QA)=none34):=rfl;have d:none34.size=3:=rfl;have l:none34.all (·.oneCell')=true:=by simp[none34,Qj]
  have i:∀b:Qt,(Instr.build 34 #[]).run Qk b=.ok (Qg none34) b:=λb=>run_build b _ _ _ kr
  generalize none34=Z at o j d l i;have f:=D5 a (w.alloc (QF Z 34)) k true (by simp[h]);rw[show (w.alloc (QF Z 34)).heap.size=w.heap.size+1 by simp]at f;have m:QG w.heap.size w ((w.alloc (QF Z 34)).alloc (QF (Ss [a]) 9)):=(bR.alloc nR _).alloc ss _;have c:Blk ((w.alloc (QF Z 34)).alloc (QF (Ss [a]) 9)) w.heap.size Z 34:=(QL _ _ _).alloc _;clear h k g;go_enter Tryz.func17,Tryz.ntmps17;go_wp2_with fail;refine f.out.mono ?_;rintro e w' ⟨rfl,rfl⟩;have n:=c.row Z;unfold Blk at c;go_wp2_with (first
   |(refine nG rfl 34 _ rfl [] rfl Z (i _) ?_)
   |(refine wpList_store_row rfl 34 _ _ rfl w.heap.size _ rfl rfl 34 _ c (by rw[d];exact Tryz.info34) rfl l ?_))
  refine bodyPost_ret (bj rfl _ _ w.heap.size 34 _ (0,0) _ _ rfl rfl n Tryz.underlying34 rfl (by rw[d];exact Tryz.info34)) rfl ⟨?_,Qz m nR _⟩;rw[<-j.out];rfl
end Go.Proofs.YtclpbaokadfhhaaGreatDoor
