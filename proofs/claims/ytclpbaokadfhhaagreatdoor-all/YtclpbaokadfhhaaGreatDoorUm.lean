import Derived.Test.YtclpbaokadfhhaaGreatDoorUj
set_option maxRecDepth 100000
set_option maxHeartbeats 2000000
open Go.Value renaming string->Qa,int->Qc,tuple->Qd,pointer->Qe,agg->Qf
open Go renaming World->Qg,results_none->Qi,bodyPost_ret->Qj,below_setRow->Qk,Calls->Qm
open Go.RowKit renaming Below->Qn
open Go.Obj renaming cells->Qo
open ByteArray renaming size_append->Qp,size_extract->Qq
open Go.IntKind renaming i64->Qt
open Or renaming inl->Qx,inr->Qy
open Go.Proofs.Tryz renaming prog->Qz,ntmps47->QA,func47->QB
namespace Go.Proofs.YtclpbaokadfhhaaGreatDoor
open Go.RowKit
open Blk renaming new->QC
theorem aaL(o:OpV)(v:Wv)(q:Nat)(d:Qg)(D S B:Qb)(j x:Int)(K:Blk d q v.cs 43)
  (X:Hid (∀m:Qg,Qm Qz 96 #[Qa o.d,Qa v.l] m λe w'=>e=.returned (Qa B)/\w'=m))
  (T:Hid (∀m:Qg,Qn d.heap.size d m->Rw 17 #[Qa o.a,Qa B] m (Qd #[Qf #[Qa D,Qa S,Qc Qt j],Qc Qt x])))
  (W:Hid (∀m:Qg,Rw 104 #[Qa o.a,Qa B] m (Qd #[Qf #[Qa D,Qa S,Qc Qt j],Qc Qt x]))):
  Rw 46 #[Qe (some ⟨q,0,none⟩),Qf o.cs] d (.bool true):=by
 have z:(λy:Qg=>Blk y q v.cs 43/\Blk y d.heap.size o.cs 45/\Qn d.heap.size d y) (d.alloc (Qo o.cs 45)):=⟨K.alloc _,QC _ _ _,bR.alloc nR _⟩;have n:Hid (∀a b:Qg,(λy:Qg=>Blk y q v.cs 43/\Blk y d.heap.size o.cs 45/\Qn d.heap.size d y) a->Qn a.heap.size a b->(λy:Qg=>Blk y q v.cs 43/\Blk y d.heap.size o.cs 45/\Qn d.heap.size d y) b):=λa b h k=>⟨h.1.keep k,h.2.1.keep k,h.2.2.trans (k.mono h.2.2.size)⟩
 have sO:=o.size;have hz:=DR;generalize J:none34=Z at hz;have Q:Z.size=3:=by rw[<-J];rfl
 have P:(#[Qa D,Qa S,Qc Qt j]:Array Value).size=3:=rfl;have O:(#[Qa D,Qa S,Qc Qt j]:Array Value).all (·.oneCell')=true:=by simp[Value.oneCell']
 clear K J;go_enter Tryz.func46,Tryz.ntmps46;go_wp2_with fail;generalize d.alloc (Qo o.cs 45)=R at z|-;refine bu (S:=(λy:Qg=>Blk y q v.cs 43/\Blk y d.heap.size o.cs 45/\Qn d.heap.size d y)) (ls:=[]) kr ?_;have c:(λy:Qg=>Blk y q v.cs 43/\Blk y d.heap.size o.cs 45/\Qn d.heap.size d y) R.drew:=⟨z.1.drew,z.2.1.drew,z.2.2.drew⟩;clear z;generalize R.drew=wd at c|-;refine ae 0 10 c ?_;refine ae 2 12 c ?_;simp only[qQ];refine ae 3 13 c ?_;simp only[qQ];refine ae 4 14 c ?_;simp only[qQ];refine ac 1 11 (v:=Qa o.d) c ?_ ?_
 ·(intro m A;obtain⟨p,r,s,t,u,w⟩:=OpV.at A.2.1;clear A;go_simp)
 refine ac 5 15 (v:=Qa v.l) c ?_ ?_
 ·(intro m A;obtain⟨p,r,s,t,u,w⟩:=Wv.at A.1;clear A;go_simp)
 simp only[qQ];refine ip (i:=6) kr rfl (λK' I=>?_);go_simp;go_wp2_with (go_at_call 96;refine mo (X.out _) λw2 ad=>?_);obtain rfl:=ad.symm;refine I.out _ _ c ?_;try simp only[qQ]
 clear I K';refine ac 7 5 (v:=Qa B) c ?_ ?_
 .exact λd _=>rfl
 try simp only[qQ]
 refine aC ?_;obtain⟨p,r,s,t,u,w⟩:=OpV.at c.2.1;go_wp2_with fail;clear p r s t u w;refine mo (T.out _ c.2.2) λl L=>?_;replace c:=n.out _ _ c L;clear L;have E:=QC l Z 34;have N:=E.row #[Qa D,Qa S,Qc Qt j];have M:Qn l.heap.size l ((l.alloc (Qo Z 34)).setRow l.heap.size #[Qa D,Qa S,Qc Qt j]):=Qk (bR.alloc nR _) nR _;unfold Blk at E;have g:=N;replace c:=n.out _ _ c M;obtain⟨p,r,s,t,u,w⟩:=OpV.at c.2.1;go_wp2_with (refine st t34 rfl rfl l.heap.size rfl rfl E P Q O ?_);clear p r s t u w E N M;generalize (l.alloc (Qo Z 34)).setRow l.heap.size #[Qa D,Qa S,Qc Qt j]=w4 at c g|-;generalize l.heap.size=F at g|-;refine mo (W.out _) λf G=>?_;replace c:=n.out _ _ c G;replace g:=g.keep G;clear G;have H:=QC f Z 34;have C:=H.row #[Qa D,Qa S,Qc Qt j];have kk2:Qn f.heap.size f ((f.alloc (Qo Z 34)).setRow f.heap.size #[Qa D,Qa S,Qc Qt j]):=Qk (bR.alloc nR _) nR _;unfold Blk at H;replace c:=n.out _ _ c kk2;replace g:=g.keep kk2;have a0:((f.alloc (Qo Z 34)).setRow f.heap.size #[Qa D,Qa S,Qc Qt j]).cell? ⟨F,0,none⟩=some (Qa D):=g.cell 0;have a1:((f.alloc (Qo Z 34)).setRow f.heap.size #[Qa D,Qa S,Qc Qt j]).cell? ⟨F,1,none⟩=some (Qa S):=g.cell 1;have a2:((f.alloc (Qo Z 34)).setRow f.heap.size #[Qa D,Qa S,Qc Qt j]).cell? ⟨F,2,none⟩=some (Qc Qt j):=g.cell 2;have e0:((f.alloc (Qo Z 34)).setRow f.heap.size #[Qa D,Qa S,Qc Qt j]).cell? ⟨f.heap.size,0,none⟩=some (Qa D):=C.cell 0;have e1:((f.alloc (Qo Z 34)).setRow f.heap.size #[Qa D,Qa S,Qc Qt j]).cell? ⟨f.heap.size,1,none⟩=some (Qa S):=C.cell 1;have e2:((f.alloc (Qo Z 34)).setRow f.heap.size #[Qa D,Qa S,Qc Qt j]).cell? ⟨f.heap.size,2,none⟩=some (Qc Qt j):=C.cell 2;have ab:=c.2.2;clear c g C kk2 n;go_wp2_with (refine st t34 rfl rfl f.heap.size rfl rfl H P Q O ?_);go_ret;exact⟨rfl,ab⟩
theorem YI(o:OpV)(v:Wv)(q:Nat)(d:Qg)(X s:Qb)(Y u:Int)(D:o.k=13)(w:Blk d q v.cs 43)
  (x:Hid (∀p:Qg,Rw 18 #[Qa o.a] p (Qd #[Qa X,Qc Qt Y])))
  (z:Hid (∀p:Qg,Rw 105 #[Qa o.a] p (Qd #[Qa X,Qc Qt Y])))
  (A:Hid (∀p:Qg,Rw 18 #[Qa v.l] p (Qd #[Qa s,Qc Qt u])))
  (B:Hid (∀p:Qg,Rw 105 #[Qa v.l] p (Qd #[Qa s,Qc Qt u]))):
  Qm Qz 47 #[Qe (some ⟨q,0,none⟩),Qf o.cs] d λe w'=>e=.returned (.bool true)/\ ∃t,Qn d.heap.size d t/\w'=t.setCell ⟨q,3,none⟩ (Qa s):=by
 have c:(λy:Qg=>Blk y q v.cs 43/\Blk y d.heap.size o.cs 45/\Qn d.heap.size d y) (d.alloc (Qo o.cs 45)):=⟨w.alloc _,QC _ _ _,bR.alloc nR _⟩;have r:Hid (∀a b:Qg,(λy:Qg=>Blk y q v.cs 43/\Blk y d.heap.size o.cs 45/\Qn d.heap.size d y) a->Qn a.heap.size a b->(λy:Qg=>Blk y q v.cs 43/\Blk y d.heap.size o.cs 45/\Qn d.heap.size d y) b):=λa b h k=>⟨h.1.keep k,h.2.1.keep k,h.2.2.trans (k.mono h.2.2.size)⟩
 have H:=o.size;have G:=w.lt;obtain⟨f,i,j,n,l,m⟩:=OpV.at c.2.1;go_enter QB,QA;rw[D]at f;go_wp2_with fail;generalize d.alloc (Qo o.cs 45)=K at c f i j n l m|-;clear f i j n l m;refine mo (x.out _) λI g=>?_;replace c:=r.out _ _ c g;clear g;obtain⟨f,i,j,n,l,m⟩:=OpV.at c.2.1;go_wp2_with fail;clear f i j n l m;refine mo (z.out _) λt g=>?_;replace c:=r.out _ _ c g;clear g;obtain⟨f,i,j,n,l,m⟩:=Wv.at c.1;go_wp2_with fail;clear f i j n l m;refine mo (A.out _) λJ g=>?_;replace c:=r.out _ _ c g;clear g;obtain⟨f,i,j,n,l,m⟩:=Wv.at c.1;go_wp2_with fail;clear f i j n l m;refine mo (B.out _) λE g=>?_;replace c:=r.out _ _ c g;clear g;have F:=c.1.frozen 3;obtain⟨f,i,j,n,l,m⟩:=Wv.at c.1;have C:=c.2.2;clear c r f i j l m;go_wp2;go_ret;exact⟨rfl,E,C,rfl⟩
theorem YJ(o:OpV)(v:Wv)(q:Nat)(c:Qg)(w X:Qb)(m Y:Int)(H:o.k=14)(A:Blk c q v.cs 43)
  (E:Hid (∀f:Qg,Qm Qz 96 #[Qa o.d,Qa v.t] f λe w'=>e=.returned (Qa w)/\w'=f))
  (C:Hid (∀f:Qg,Qn c.heap.size c f->Rw 19 #[Qa w] f (Qd #[Qa X,Qc Qt m,Qc Qt Y])))
  (D:Hid (∀f:Qg,Rw 106 #[Qa w] f (Qd #[Qa X,Qc Qt m,Qc Qt Y]))):
  Rw 47 #[Qe (some ⟨q,0,none⟩),Qf o.cs] c (.bool true):=by
 have g:(λy:Qg=>Blk y q v.cs 43/\Blk y c.heap.size o.cs 45/\Qn c.heap.size c y) (c.alloc (Qo o.cs 45)):=⟨A.alloc _,QC _ _ _,bR.alloc nR _⟩;have x:Hid (∀a b:Qg,(λy:Qg=>Blk y q v.cs 43/\Blk y c.heap.size o.cs 45/\Qn c.heap.size c y) a->Qn a.heap.size a b->(λy:Qg=>Blk y q v.cs 43/\Blk y c.heap.size o.cs 45/\Qn c.heap.size c y) b):=λa b h k=>⟨h.1.keep k,h.2.1.keep k,h.2.2.trans (k.mono h.2.2.size)⟩
 have K:=o.size;have J:=A.lt;obtain⟨j,p,r,s,t,u⟩:=OpV.at g.2.1;go_enter QB,QA;rw[H]at j;go_wp2_with fail;generalize c.alloc (Qo o.cs 45)=B at g j p r s t u|-;clear j p r s t u;refine bu (S:=(λy:Qg=>Blk y q v.cs 43/\Blk y c.heap.size o.cs 45/\Qn c.heap.size c y)) (ls:=[]) kr ?_;have d:(λy:Qg=>Blk y q v.cs 43/\Blk y c.heap.size o.cs 45/\Qn c.heap.size c y) B.drew:=⟨g.1.drew,g.2.1.drew,g.2.2.drew⟩;clear g;generalize B.drew=O at d|-;refine ae 0 73 d ?_;refine ae 2 75 d ?_;simp only[qQ];refine ae 3 76 d ?_;simp only[qQ];refine ae 4 77 d ?_;simp only[qQ];refine ac 1 74 (v:=Qa o.d) d ?_ ?_
 ·(intro f l;obtain⟨j,p,r,s,t,u⟩:=OpV.at l.2.1;clear l;go_simp)
 refine ac 5 78 (v:=Qa v.t) d ?_ ?_
 ·(intro f l;obtain⟨j,p,r,s,t,u⟩:=Wv.at l.1;clear l;go_simp)
 simp only[qQ];refine ip (i:=6) kr rfl (λF z=>?_);go_simp;go_wp2_with (go_at_call 96;refine mo (E.out _) λL I=>?_);obtain rfl:=I.symm;refine z.out _ _ d ?_;try simp only[qQ]
 clear z F;refine ac 7 13 (v:=Qa w) d ?_ ?_
 .exact λc _=>rfl
 try simp only[qQ]
 refine aC ?_;go_wp2_with fail;refine mo (C.out _ d.2.2) λM n=>?_;replace d:=x.out _ _ d n;clear n;go_wp2_with fail;refine mo (D.out _) λN n=>?_;replace d:=x.out _ _ d n;have G:=d.2.2;clear n d x;go_wp2;go_ret;exact⟨rfl,G⟩
theorem Ww(o:OpV)(v:Wv)(q:Nat)(f:Qg)(X:Qb)(Y:Int)(u:ByteArray->ByteArray)(J:ByteArray->Int)(hl:v.l.size<=1000000)(hX:X.size<=32)(G:∀d,(u d).size<=64)(P:Blk f q v.cs 43)
  (x:Hid (∀B:Qg,Rw 21 #[Qa o.a] B (Qd #[Qa X,Qc Qt Y])))
  (z:Hid (∀(B:Qg) (d:ByteArray),d.size<=1000000->Rw 100 #[Qa o.a,Qa d] B (Qd #[Qa (u d),Qc Qt (J d)]))):
  Qm Qz 49 #[Qe (some ⟨q,0,none⟩),Qf o.cs] f λe w'=>e=.returned (Qd #[])/\ ∃D,Qn f.heap.size f D/\(w'=D\/ ∃T:ByteArray,T.size<=v.l.size/\w'=D.setCell ⟨q,2,none⟩ (Qa T)):=by
 have c:(λy:Qg=>Blk y q v.cs 43/\Blk y f.heap.size o.cs 45/\Qn f.heap.size f y) (f.alloc (Qo o.cs 45)):=⟨P.alloc _,QC _ _ _,bR.alloc nR _⟩;have s:Hid (∀a b:Qg,(λy:Qg=>Blk y q v.cs 43/\Blk y f.heap.size o.cs 45/\Qn f.heap.size f y) a->Qn a.heap.size a b->(λy:Qg=>Blk y q v.cs 43/\Blk y f.heap.size o.cs 45/\Qn f.heap.size f y) b):=λa b h k=>⟨h.1.keep k,h.2.1.keep k,h.2.2.trans (k.mono h.2.2.size)⟩
 have sO:=o.size;obtain⟨l,m,t,n,p,r⟩:=OpV.at c.2.1;replace G:=Qh G;clear P;go_enter Tryz.func49,Tryz.ntmps49;go_wp2_with fail;generalize f.alloc (Qo o.cs 45)=wa at c l m t n p r|-;clear l m t n p r;refine mo (x.out _) λj Q=>?_;replace c:=s.out _ _ c Q;clear Q;obtain⟨l,m,t,n,p,r⟩:=Wv.at c.1;have g:=c.2.2;by_cases ab:36<=v.l.size
 .have W:¬(v.l.size:Int)<36:=oo
  by_cases O:Y=0
  .subst O;have hb:=gh v.l 35 oo;generalize v.l.data.toList.getD 35 0=y at hb;have hy:=y.toNat_lt;have Z:(35:Int)<(v.l.size:Int):=oo
   by_cases hn:36+48*y.toNat+32+64<=v.l.size
   .have M:¬(v.l.size:Int)-64<36+48*(y.toNat:Int)+32:=oo
    have t1:(36+48*(y.toNat:Int)).toNat=36+48*y.toNat:=oo
    have t2:(36+48*(y.toNat:Int)+32).toNat=36+48*y.toNat+32:=oo
    have t3:((v.l.size:Int)-64).toNat=v.l.size-64:=oo
    have o1:(0:Int)<=36+48*(y.toNat:Int):=oo
    have o2:36+48*(y.toNat:Int)<=(v.l.size:Int):=oo
    have o3:(0:Int)<=36+48*(y.toNat:Int)+32:=oo
    have o4:36+48*(y.toNat:Int)+32<=(v.l.size:Int)-64:=oo
    have o5:(v.l.size:Int)-64<=(v.l.size:Int):=oo
    have s1:(v.l.extract 0 (36+48*y.toNat)).size=36+48*y.toNat:=by rw[Qq];omega
    have s2:(v.l.extract (36+48*y.toNat+32) (v.l.size-64)).size=v.l.size-64-(36+48*y.toNat+32):=by rw[Qq];omega
    have H:Op.stringOp .add (v.l.extract 0 (36+48*y.toNat)) X=pure (Qa (v.l.extract 0 (36+48*y.toNat)++X)):=bB _ _ oo;have s3:(v.l.extract 0 (36+48*y.toNat)++X).size<=36+48*y.toNat+32:=by rw[Qp];omega
    have E:Op.stringOp .add (v.l.extract 0 (36+48*y.toNat)++X) (v.l.extract (36+48*y.toNat+32) (v.l.size-64))=pure (Qa (v.l.extract 0 (36+48*y.toNat)++X++v.l.extract (36+48*y.toNat+32) (v.l.size-64))):=bB _ _ oo;have s4:(v.l.extract 0 (36+48*y.toNat)++X++v.l.extract (36+48*y.toNat+32) (v.l.size-64)).size<=v.l.size-64:=by rw[Qp];omega
    generalize v.l.extract 0 (36+48*y.toNat)++X++v.l.extract (36+48*y.toNat+32) (v.l.size-64)=i at E s4;generalize v.l.extract 0 (36+48*y.toNat)++X=S0 at H E s3;have C:=Qh λB=>z.out B i oo
    have s5:=G.out i;have I:Op.stringOp .add i (u i)=pure (Qa (i++u i)):=bB _ _ oo;have A:(i++u i).size<=v.l.size:=by rw[Qp];omega
    clear x z s1 s2;generalize u i=S at C s5 I A;generalize J i=K at C;generalize i++S=F at I A;go_wp2_with fail;go_quiet (fail)
    have L:Qn j.heap.size j (j.drewN nq):=below_drewN bR nq;replace c:=s.out _ _ c L;clear l m t n p r g L H E M t1 t2 t3 o1 o2 o3 o4 o5;generalize j.drewN nq=D at c|-;obtain⟨l,m,t,n,p,r⟩:=OpV.at c.2.1;go_wp2_with fail;clear l m t n p r;refine mo (C.out _) λw R=>?_;replace c:=s.out _ _ c R;clear R C s;have f0:=c.1.frozen 2;obtain⟨l,m,t,n,p,r⟩:=Wv.at c.1;have g:=c.2.2;clear c l m n p r;by_cases N:K=0
    .subst N;go_wp2;first
      |(refine Qj (Qi rfl _ _ _) rfl ⟨rfl,w,g,Qy ⟨F,A,rfl⟩⟩)
      |(go_ret;exact⟨rfl,w,g,Qy ⟨F,A,rfl⟩⟩)
      |(go_end0;exact⟨rfl,w,g,Qy ⟨F,A,rfl⟩⟩)
    .have dT:(K==0)=false:=by rw[beq_eq_false_iff_ne];exact N
     go_wp2;first
      |(refine Qj (Qi rfl _ _ _) rfl ⟨rfl,w,g,Qx rfl⟩)
      |(go_ret;exact⟨rfl,w,g,Qx rfl⟩)
      |(go_end0;exact⟨rfl,w,g,Qx rfl⟩)
   .have M:(v.l.size:Int)-64<36+48*(y.toNat:Int)+32:=oo
    clear c s x z;go_wp2;first
     |(refine Qj (Qi rfl _ _ _) rfl ⟨rfl,j,g,Qx rfl⟩)
     |(go_ret;exact⟨rfl,j,g,Qx rfl⟩)
  .have Z:(Y !=0)=true:=by rw[bne_iff_ne];exact O
   clear c s x z;go_wp2;first
    |(refine Qj (Qi rfl _ _ _) rfl ⟨rfl,j,g,Qx rfl⟩)
    |(go_ret;exact⟨rfl,j,g,Qx rfl⟩)
 .have W:(v.l.size:Int)<36:=oo
  clear c s x z;go_wp2;first
   |(refine Qj (Qi rfl _ _ _) rfl ⟨rfl,j,g,Qx rfl⟩)
   |(go_ret;exact⟨rfl,j,g,Qx rfl⟩)
end Go.Proofs.YtclpbaokadfhhaaGreatDoor
