import Derived.Test.YtclpbaokadfhhaaGreatDoorUn
import Derived.Test.YtclpbaokadfhhaaGreatDoorUm
import Derived.Test.YtclpbaokadfhhaaGreatDoorUl
import Derived.Test.YtclpbaokadfhhaaGreatDoorUk
set_option maxRecDepth 100000
set_option maxHeartbeats 8000000
open Go.Value renaming string->Qa,pointer->Qc,int->Qd,bool->Qe,agg->Qf,tuple->Qg,slice->Qi
open Go renaming World->Qj,run_build->Qk,Calls->Qm
open Go.Proofs.Tryz renaming prog->Qn,underlying45->Qo,ntmps44->Qp,func44->Qq,ntmps42->Qt,func42->Qx
open ByteArray renaming size_append->Qy,size_extract->Qz
open Go.Ending renaming returned->QA
open Go.RowKit renaming Below->QB,intOf->QC
open Go.Obj renaming cells->QD
open Nat renaming lt_of_lt_of_le->QE,le_trans->QF
open Go.IntKind renaming i64->QG
open Or renaming inl->QH,inr->QI
open List renaming size_toArray->QJ,mem_cons->QL
namespace Go.Proofs.YtclpbaokadfhhaaGreatDoor
open Go.RowKit
def Aft(q i:Nat)(wx w':Qj):Prop:= ∃w2,QB wx.heap.size wx w2/\(w'=w2\/ ∃T:ByteArray,T.size<=1000000/\w'=w2.setCell ⟨q,i,none⟩ (Qa T))
theorem Pi(c a b data:Qb):(ep c a b data).1.size<=1000000:=by
 unfold ep;split
 .rename_i h
  rw[show ((du c a b data,(0:Int)):ByteArray×Int).1.size=data.size+16 from qJ _ _ _ _];omega
 .show(⟨#[]⟩:ByteArray).size<=_
  decide
theorem Wy(M:Bo)(o:OpV)(r:o.Ok)(q:Nat)(v:Wv)(d:Qj)(x:o.k=4\/o.k=5)(v1:v.Ok)(J:Blk d q v.cs 43)(O:Tab ai d):
  Qm Qn 42 #[Qc (some ⟨q,0,none⟩),Qf o.cs] d λe w'=>e=QA (Qe true)/\Aft q 0 d w':=by
 have ab:q<d.heap.size:=J.lt;have c:(λy=>Blk y q v.cs 43/\Blk y d.heap.size o.cs 45/\QB d.heap.size d y/\Tab ai y) (d.alloc (QD o.cs 45)):=⟨J.alloc _,Blk.new _ _ _,bR.alloc nR _,O.below (bR.alloc nR _)⟩;have B:Hid (∀f:Qj,Rw 94 #[Qa o.a,Qa o.b,Qa o.c,Qa o.d] f (Qg #[Qa (ep o.a o.b o.c o.d).1,Qd QG (ep o.a o.b o.c o.d).2])):=λf=>WV o.a o.b o.c o.d f r.a r.b r.c r.d
 have C:Hid (∀f:Qj,Rw 95 #[Qa o.a,Qa o.b,Qa o.c,Qa o.d] f (Qg #[Qa (ep o.a o.b o.c o.d).1,Qd QG (ep o.a o.b o.c o.d).2])):=λf=>S6 M o.a o.b o.c o.d f
 have Z:=Pi o.a o.b o.c o.d;generalize (ep o.a o.b o.c o.d).1=X at B C Z;generalize (ep o.a o.b o.c o.d).2=Y at B C;have z:(if o.d.size=0 then v.c else o.d).size<=140737488351232:=by split;have:=v1.c;omega;exact r.d
 have D:Hid (∀f:Qj,Qm Qn 96 #[Qa o.d,Qa v.c] f λe w'=>e=QA (Qa (if o.d.size=0 then v.c else o.d))/\w'=f):=λf=>Ui o.d v.c f
 generalize (if o.d.size=0 then v.c else o.d)=i at z D;have E:Hid (∀f:Qj,Rw 31 #[Qa o.a,Qa o.b,Qa o.c,Qa i] f (Qg #[Qa (bI o.a o.b o.c i).1,Qd QG (bI o.a o.b o.c i).2])):=λf=>P4 o.a o.b o.c i f r.a r.b r.c z
 have F:Hid (∀f:Qj,Rw 97 #[Qa o.a,Qa o.b,Qa o.c,Qa i] f (Qg #[Qa (bI o.a o.b o.c i).1,Qd QG (bI o.a o.b o.c i).2])):=λf=>Ey M o.a o.b o.c i f z
 generalize (bI o.a o.b o.c i).1=X2 at E F;generalize (bI o.a o.b o.c i).2=Y2 at E F;have t:Hid (∀a b:Qj,(λy=>Blk y q v.cs 43/\Blk y d.heap.size o.cs 45/\QB d.heap.size d y/\Tab ai y) a->QB a.heap.size a b->(λy=>Blk y q v.cs 43/\Blk y d.heap.size o.cs 45/\QB d.heap.size d y/\Tab ai y) b):=λa b h k=>⟨h.1.keep k,h.2.1.keep k,h.2.2.1.trans (k.mono h.2.2.1.size),h.2.2.2.below k⟩
 obtain⟨g,j,l,m,n,p⟩:=OpV.at c.2.1;have sO:=o.size;generalize u:o.cs=A at c g j l m n p sO t|-;replace u:Hid (o.cs=A):=u;clear J O z;rcases x with x|x
 .rw[x]at g;go_enter Qx,Qt;go_wp2_with fail;clear g j l m n p;generalize d.alloc (QD A 45)=L at c|-;refine mo (B.out _) λwb Q=>?_;replace c:=t.out _ _ c Q;clear Q;have s:=c.2.1;rw[<-u.out]at s;obtain⟨g,j,l,m,n,p⟩:=OpV.at s;clear s;go_wp2_with fail;clear g j l m n p;refine mo (C.out _) λwc R=>?_;replace c:=t.out _ _ c R;clear R t;have f0:=c.1.frozen 0;have H:=c.1.cell 0;rw[show v.cs[0]? =some (Qa v.c)from rfl]at H;have G:Hid (Aft q 0 d (wc.setCell ⟨q,0,none⟩ (Qa X))):=⟨_,c.2.2.1,QI ⟨X,Z,rfl⟩⟩;clear c;go_wp2;go_ret;exact⟨rfl,G.out⟩
 .rw[x]at g;go_enter Qx,Qt;go_wp2_with fail;clear g j l m n p;generalize d.alloc (QD A 45)=L at c|-;rw[<-u.out]at c;refine bu (S:=(λy=>Blk y q v.cs 43/\Blk y d.heap.size o.cs 45/\QB d.heap.size d y/\Tab ai y)) (ls:=[]) kr ?_;have I:(λy=>Blk y q v.cs 43/\Blk y d.heap.size o.cs 45/\QB d.heap.size d y/\Tab ai y) L.drew:=⟨c.1.drew,c.2.1.drew,c.2.2.1.drew,c.2.2.2⟩;clear c;generalize L.drew=wd at I|-;have c:=I;clear I;refine ae 0 53 c ?_;refine ac 1 54 (v:=Qa o.d) c ?_ ?_
  ·(intro d w;obtain⟨g,j,l,m,n,p⟩:=OpV.at w.2.1;clear w;go_simp;try (with_reducible rfl))
  refine ae 2 55 c ?_;simp only[qQ];refine ae 3 56 c ?_;refine ae 4 57 c ?_;refine ac 5 58 (v:=Qa v.c) c ?_ ?_
  ·(intro d w;have H:=w.1.cell 0;rw[show v.cs[0]? =some (Qa v.c)from rfl]at H;clear w;go_simp;try (with_reducible rfl))
  simp only[qQ];refine aF 6 λK N=>?_
  go_simp;go_wp2_with (go_at_call 96;refine mo (D.out _) λwf P=>?_);try rw[P]
  refine N.out _ _ c ?_;try simp only[qQ]
  clear N K P;refine ac 7 9 (v:=Qa i) c ?_ ?_
  .exact λd _=>rfl
  try simp only[qQ]
  refine aC ?_;obtain⟨g,j,l,m,n,p⟩:=OpV.at c.2.1;rw[u.out]at c;clear D;go_wp2_with fail;clear g j l m n p;refine mo (E.out _) λwe T=>?_;replace c:=t.out _ _ c T;clear T;have s:=c.2.1;rw[<-u.out]at s;obtain⟨g,j,l,m,n,p⟩:=OpV.at s;clear s;go_wp2_with fail;clear g j l m n p;refine mo (F.out _) λwg W=>?_;replace c:=t.out _ _ c W;clear W;have G:Hid (Aft q 0 d wg):=⟨_,c.2.2.1,QH rfl⟩;clear c;go_wp2;go_ret;exact⟨rfl,G.out⟩
theorem PD(s d:Qb):(eH s d).1.size<=1000000:=by
 unfold eH;split
 .show(eI s d++fS (oK s d)).size<=_
  rw[Qy,ym,oB];omega
 .show(⟨#[]⟩:ByteArray).size<=_
  decide
theorem YL(o:OpV)(w:o.Ok)(q:Nat)(v:Wv)(f:Qj)(u:o.k=8\/o.k=9\/o.k=10)(_:v.Ok)(P:Blk f q v.cs 43)(R:Tab ai f):
  Qm Qn 44 #[Qc (some ⟨q,0,none⟩),Qf o.cs] f λe w'=>e=QA (Qe true)/\Aft q 1 f w':=by
 have ab:q<f.heap.size:=P.lt;have c:(λy=>Blk y q v.cs 43/\Blk y f.heap.size o.cs 45/\QB f.heap.size f y/\Tab ai y) (f.alloc (QD o.cs 45)):=⟨P.alloc _,Blk.new _ _ _,bR.alloc nR _,R.below (bR.alloc nR _)⟩;have A:Hid (∀d:Qj,Tab ai d->Rw 13 #[Qa o.a] d (Qg #[Qa (iP o.a).1,Qd QG (iP o.a).2])):=λd h=>Uf o.a d w.a h
 have B:Hid (∀d:Qj,Rw 21 #[Qa o.a] d (Qg #[Qa (iP o.a).1,Qd QG (iP o.a).2])):=λd=>uo o.a d
 generalize (iP o.a).1=X0 at A B;generalize (iP o.a).2=Y0 at A B;have x:Hid (∀d:Qj,Tab ai d->Rw 99 #[Qa o.a,Qa o.b] d (Qg #[Qa (eH o.a o.b).1,Qd QG (eH o.a o.b).2])):=λd h=>ace o.a o.b d w.a w.b h
 have z:Hid (∀d:Qj,Rw 100 #[Qa o.a,Qa o.b] d (Qg #[Qa (eH o.a o.b).1,Qd QG (eH o.a o.b).2])):=λd=>Mb o.a o.b w.b d
 have L:=PD o.a o.b;generalize (eH o.a o.b).1=X at x z L;generalize (eH o.a o.b).2=Y at x z;have C:Hid (∀d:Qj,Qm Qn 96 #[Qa o.d,Qa v.s] d λe w'=>e=QA (Qa (if o.d.size=0 then v.s else o.d))/\w'=d):=λd=>Ui o.d v.s d
 generalize (if o.d.size=0 then v.s else o.d)=s at C;have I:Hid (∀d:Qj,Tab ai d->Rw 101 #[Qa o.a,Qa o.b,Qa s] d (Qe (jN o.a o.b s))):=λd h=>Yz o.a o.b s d w.a w.b h
 have J:Hid (∀d:Qj,Rw 102 #[Qa o.a,Qa o.b,Qa s] d (Qe (jN o.a o.b s))):=λd=>Rq o.a o.b s d
 generalize jN o.a o.b s=X2 at I J;have r:Hid (∀a b:Qj,(λy=>Blk y q v.cs 43/\Blk y f.heap.size o.cs 45/\QB f.heap.size f y/\Tab ai y) a->QB a.heap.size a b->(λy=>Blk y q v.cs 43/\Blk y f.heap.size o.cs 45/\QB f.heap.size f y/\Tab ai y) b):=λa b h k=>⟨h.1.keep k,h.2.1.keep k,h.2.2.1.trans (k.mono h.2.2.1.size),h.2.2.2.below k⟩
 obtain⟨g,i,j,l,m,n⟩:=OpV.at c.2.1;have sO:=o.size;generalize t:o.cs=H at c g i j l m n sO r|-;replace t:Hid (o.cs=H):=t;clear P R;rcases u with u|u|u
 .rw[u]at g;clear x z I J C L;go_enter Qq,Qp;go_wp2_with fail;clear g i j l m n;generalize f.alloc (QD H 45)=M at c|-;refine mo (A.out _ c.2.2.2) λwb F=>?_;replace c:=r.out _ _ c F;clear F;have p:=c.2.1;rw[<-t.out]at p;obtain⟨g,i,j,l,m,n⟩:=OpV.at p;clear p;go_wp2_with fail;clear g i j l m n;refine mo (B.out _) λwc G=>?_;replace c:=r.out _ _ c G;clear G r;have D:Hid (Aft q 1 f wc):=⟨_,c.2.2.1,QH rfl⟩;clear c;go_wp2;go_ret;exact⟨rfl,D.out⟩
 .rw[u]at g;clear A B I J C;go_enter Qq,Qp;go_wp2_with fail;clear g i j l m n;generalize f.alloc (QD H 45)=M at c|-;refine mo (x.out _ c.2.2.2) λwb F=>?_;replace c:=r.out _ _ c F;clear F;have p:=c.2.1;rw[<-t.out]at p;obtain⟨g,i,j,l,m,n⟩:=OpV.at p;clear p;go_wp2_with fail;clear g i j l m n;refine mo (z.out _) λwc G=>?_;replace c:=r.out _ _ c G;clear G r;have f0:=c.1.frozen 1;have N:=c.1.cell 1;rw[show v.cs[1]? =some (Qa v.s)from rfl]at N;have D:Hid (Aft q 1 f (wc.setCell ⟨q,1,none⟩ (Qa X))):=⟨_,c.2.2.1,QI ⟨X,L,rfl⟩⟩;clear c;go_wp2;go_ret;exact⟨rfl,D.out⟩
 .rw[u]at g;clear A B x z L;go_enter Qq,Qp;go_wp2_with fail;clear g i j l m n;generalize f.alloc (QD H 45)=M at c|-;rw[<-t.out]at c;refine bu (S:=(λy=>Blk y q v.cs 43/\Blk y f.heap.size o.cs 45/\QB f.heap.size f y/\Tab ai y)) (ls:=[]) kr ?_;have O:(λy=>Blk y q v.cs 43/\Blk y f.heap.size o.cs 45/\QB f.heap.size f y/\Tab ai y) M.drew:=⟨c.1.drew,c.2.1.drew,c.2.2.1.drew,c.2.2.2⟩;clear c;generalize M.drew=wd at O|-;have c:=O;clear O;refine ae 0 70 c ?_;refine ac 1 71 (v:=Qa o.d) c ?_ ?_
  ·(intro f E;obtain⟨g,i,j,l,m,n⟩:=OpV.at E.2.1;clear E;go_simp;try (with_reducible rfl))
  refine ae 2 72 c ?_;simp only[qQ];refine ae 3 73 c ?_;refine ae 4 74 c ?_;refine ac 5 75 (v:=Qa v.s) c ?_ ?_
  ·(intro f E;have N:=E.1.cell 1;rw[show v.cs[1]? =some (Qa v.s)from rfl]at N;clear E;go_simp;try (with_reducible rfl))
  simp only[qQ];refine aF 6 λK Q=>?_
  go_simp;go_wp2_with (go_at_call 96;refine mo (C.out _) λwf T=>?_);try rw[T]
  refine Q.out _ _ c ?_;try simp only[qQ]
  clear Q K T;refine ac 7 13 (v:=Qa s) c ?_ ?_
  .exact λf _=>rfl
  try simp only[qQ]
  refine aC ?_;obtain⟨g,i,j,l,m,n⟩:=OpV.at c.2.1;rw[t.out]at c;clear C;go_wp2_with fail;clear g i j l m n;refine mo (I.out _ c.2.2.2) λwe W=>?_;replace c:=r.out _ _ c W;clear W;have p:=c.2.1;rw[<-t.out]at p;obtain⟨g,i,j,l,m,n⟩:=OpV.at p;clear p;go_wp2_with fail;clear g i j l m n;refine mo (J.out _) λwg Z=>?_;replace c:=r.out _ _ c Z;clear Z;have D:Hid (Aft q 1 f wg):=⟨_,c.2.2.1,QH rfl⟩;clear c;go_wp2;go_ret;exact⟨rfl,D.out⟩
theorem LK:∀ls:List (List UInt8),(∀l∈ls,l.length<=64)->(aE ls).length<=65*ls.length
 | [],_=>by simp[aE]
 |x::ls,h=>by
  have b:=h x List.mem_cons_self;have h2:=LK ls λl a=>h l (List.mem_cons_of_mem _ a)
  simp only[aE,List.length_append,List.length_cons];omega
theorem P3(s:Qb):(ik s).1.size<=1000000:=by
 unfold ik;split
 .rename_i h
  show(oF s.data.toList).toArray.size<=_
  have a:s.data.toList.length<=12000:=by simpa using h
  rw[QJ];have c:=LK (yB s.data.toList) (λl a=>by
   rcases QL.1 a with rfl|a
   .decide
   .rcases List.mem_append.1 a with a|a
    .obtain⟨x,b,rfl⟩:=List.mem_map.1 a;have:=Rc _ _ nR x b;rw[jW];omega
    .rw[List.mem_singleton.1 a];decide)
  have h2:=Ad _ s.data.toList nR;unfold oF;have d:(yB s.data.toList).length=(fG s.data.toList).length+2:=by simp[yB]
  omega
 .show(⟨#[]⟩:ByteArray).size<=_
  decide
theorem Th(K:Nat->BitVec 64)(b:Qb)(R:List ByteArray)(a data:Qb):(fK K b R a data).1.size<=1000000:=by
 unfold fK;split
 .rename_i h
  split
  .rename_i d
   unfold fU;split
   .show(pA K b R a data).size<=_
    have c:=zD K a R R.length (by rw[Qz];omega);unfold pA fN fu;rw[Qy,Qy,Qy,Qy,yp,A5,qJ,AZ];omega
   .show(⟨#[]⟩:ByteArray).size<=_
    decide
  .show(⟨#[]⟩:ByteArray).size<=_
   decide
 .show(⟨#[]⟩:ByteArray).size<=_
  decide
structure Jv (q:Nat) (w1:Qj) (m:Int) (k:Nat) (v:Wv) (T:TLs) (x:Qj):Prop where
 ok:v.Ok
 n:T.length<=k
 ls:LS x q w1.heap.size v T
 kp:Kp w1.heap.size q w1 x
 tab:Tab ai x
 mx:x.cell? ⟨1,0,none⟩=some (Qd QG m)
def Jnv(q:Nat)(w1:Qj)(m:Int)(k:Nat)(x:Qj):Prop:= ∃v T,Jv q w1 m k v T x
structure Qs (q:Nat) (w1:Qj):Prop where
 b:q<w1.heap.size
 r:0<q
 m:1<q
theorem LS.put{x y:Qj}{q a:Nat}{v v':Wv}{T:TLs}(h:LS x q a v T)(n:q<a)(b:But q x y)(m:Blk y q v'.cs 43)(c:v'.lp=v.lp)(d:v'.ln=v.ln)(e:v'.lc=v.lc)(f:v'.mp=v.mp)(g:v'.mn=v.mn)(i:v'.mc=v.mc):LS y q a v' T:=by
 obtain⟨_,j,k,l⟩:=h;refine⟨m,j,k,?_⟩;rw[c,d,e,f,g,i];exact l.keep b.below.size n b.other
theorem Jv.put{q k:Nat}{c x y:Qj}{m:Int}{v v':Wv}{T:TLs}(h:Jv q c m k v T x)(b:Qs q c)(a:But q x y)(n:Blk y q v'.cs 43)(s:v'.Ok)(d:v'.lp=v.lp)(e:v'.ln=v.ln)(f:v'.lc=v.lc)(g:v'.mp=v.mp)(j:v'.mn=v.mn)(l:v'.mc=v.mc):Jnv q c m k y:=
 ⟨v',T,s,h.n,h.ls.put b.b a n d e f g j l,h.kp.trans ⟨a.below,λi o r=>a.other i (QE o h.kp.1.size) r⟩,h.tab.but a.below b.r,(a.below.cell (p:=⟨1,0,none⟩) b.m).trans h.mx⟩
theorem Jv.keep{q k:Nat}{a x y:Qj}{m:Int}{v:Wv}{T:TLs}(h:Jv q a m k v T x)(c:Qs q a)(b:QB x.heap.size x y):Jv q a m k v T y:=
 ⟨h.ok,h.n,h.ls.put c.b (But.of b (Nat.le_of_lt h.ls.1.lt)) (h.ls.1.keep b) rfl rfl rfl rfl rfl rfl,h.kp.trans (Kp.of b h.kp.1.size c.b),h.tab.below b,vT h.mx b⟩
theorem Jnv.keep{q k:Nat}{a x y:Qj}{m:Int}(h:Jnv q a m k x)(c:Qs q a)(b:QB x.heap.size x y):Jnv q a m k y:=by
 obtain⟨v,T,h⟩:=h;exact⟨v,T,h.keep c b⟩
theorem Jnv.up{q k:Nat}{a x:Qj}{m:Int}(h:Jnv q a m k x):Jnv q a m (k+1) x:=by
 obtain⟨v,T,h⟩:=h;exact⟨v,T,h.ok,Nat.le_succ_of_le h.n,h.ls,h.kp,h.tab,h.mx⟩
theorem Jv.set{q k:Nat}{e x:Qj}{m:Int}{v:Wv}{T:TLs}(h:Jv q e m k v T x)(d:Qs q e)(i:Nat)(f:i<4)(t:Qb)(ht:t.size<=1000000):Jnv q e m k (x.setCell ⟨q,i,none⟩ (Qa t)):=by
 have b:=(But.refl q x).set i (Qa t);have a:=h.ok;match i,f with
 |0,_=>exact h.put d b (v':={v with c:=t}) (h.ls.1.setAt 0 _ rfl) ⟨ht,a.s,a.l,a.t⟩ rfl rfl rfl rfl rfl rfl
 |1,_=>exact h.put d b (v':={v with s:=t}) (h.ls.1.setAt 1 _ rfl) ⟨a.c,ht,a.l,a.t⟩ rfl rfl rfl rfl rfl rfl
 |2,_=>exact h.put d b (v':={v with l:=t}) (h.ls.1.setAt 2 _ rfl) ⟨a.c,a.s,ht,a.t⟩ rfl rfl rfl rfl rfl rfl
 |3,_=>exact h.put d b (v':={v with t:=t}) (h.ls.1.setAt 3 _ rfl) ⟨a.c,a.s,a.l,ht⟩ rfl rfl rfl rfl rfl rfl
theorem Jv.aft{q k:Nat}{b x y:Qj}{m:Int}{v:Wv}{T:TLs}(h:Jv q b m k v T x)(a:Qs q b){i:Nat}(e:i<4)(d:Aft q i x y):Jnv q b m k y:=by
 obtain⟨f,c,rfl|⟨t,ht,rfl⟩⟩:=d
 .exact⟨v,T,h.keep a c⟩
 .exact(h.keep a c).set a i e t ht
theorem Uh(t:Qb)(er:Int)(A y:Int)(sp:Option Addr)(n cp:Nat)(O:Nat->OpV)(w:Qj)(a2:(A==8)=false)(a1:(A==11)=true)
  (HI:Rv 20 #[Qa kk] (Qg #[Qa t,Qd QG er]))
  (hn:n<=140737488355328)
  (hs:∀i,i<n-> ∃b off,sp=some ⟨b,off,none⟩/\b<w.heap.size/\w.rangeAt b (off+i*7) (O i).row)
  (I:Nat->Nat->Qj->Qj->Prop)
  (h0:∀g m,QB w.heap.size w m->w.heap.size<g->Blk m w.heap.size zeroV.cs 43->Blk m g #[Qa t] 9->I 0 g m m)
  (X:∀c g m f,I c g m f->But w.heap.size m f)
  (ab:∀c g m f,I c g m f->I (c+1) g m f)
  (M:∀c g m o,c<14+n->((∃j,j<14/\o=nth t (tx []) g j/\A<=o.k/\o.k<=y)\/(∃i,i<n/\o=O i/\ ¬(y<o.k/\o.k<15)))-> ∀f,I c g m f->
   Qm Qn 22 #[Qc (some ⟨w.heap.size,0,none⟩),Qf o.cs] f λe w'=>e=QA (Qe true)/\I (c+1) g m w')
  (W:∀c g m f,c<=14+n->I c g m f->Qm Qn 23 #[Qc (some ⟨w.heap.size,0,none⟩)] f λe w'=>e=QA (Qe true)/\I c g m w'):
  Rw 9 #[Qi sp n cp,Qd QG A,Qd QG y] w (Qe true):=by
 replace HI:Hid (Rv 20 #[Qa kk] (Qg #[Qa t,Qd QG er])):=HI;replace h0:Hid (∀g m,QB w.heap.size w m->w.heap.size<g->Blk m w.heap.size zeroV.cs 43->Blk m g #[Qa t] 9->I 0 g m m):=h0;replace X:Hid (∀c g m f,I c g m f->But w.heap.size m f):=X;replace hs:Hid (∀i,i<n-> ∃b off,sp=some ⟨b,off,none⟩/\b<w.heap.size/\w.rangeAt b (off+i*7) (O i).row):=hs;replace ab:Hid (∀c g m f,I c g m f->I (c+1) g m f):=ab;replace M:Hid (∀c g m o,c<14+n->((∃j,j<14/\o=nth t (tx []) g j/\A<=o.k/\o.k<=y)\/(∃i,i<n/\o=O i/\ ¬(y<o.k/\o.k<15)))-> ∀f,I c g m f->
   Qm Qn 22 #[Qc (some ⟨w.heap.size,0,none⟩),Qf o.cs] f λe w'=>e=QA (Qe true)/\I (c+1) g m w'):=M
 replace W:Hid (∀c g m f,c<=14+n->I c g m f->Qm Qn 23 #[Qc (some ⟨w.heap.size,0,none⟩)] f λe w'=>e=QA (Qe true)/\I c g m w'):=W;have hq:Blk (w.alloc (QD zeroV.cs 43)) w.heap.size zeroV.cs 43:=Blk.new _ _ _;have B:QB w.heap.size w (w.alloc (QD zeroV.cs 43)):=bR.alloc nR _;go_enter Tryz.func9,Tryz.ntmps9;go_wp2_with (refine iA rfl 43 _ rfl [] rfl zeroV.cs (Qk _ _ _ _ kr) ?_);generalize w.alloc (QD zeroV.cs 43)=m at hq B|-;refine gv HI λE k2=>?_
 replace hq:=hq.keep k2;replace B:=B.trans (k2.mono B.size);clear k2 HI;go_wp2_with fail;refine bu (S:=(λf=>QB w.heap.size w f/\Blk f w.heap.size zeroV.cs 43)) (ls:=[]) kr ?_;have l:(λf=>QB w.heap.size w f/\Blk f w.heap.size zeroV.cs 43) E.drew:=⟨B.drew,hq.drew⟩;clear hq B;generalize E.drew=Q at l|-;refine ac 0 33 (v:=Qf (op6 1 0 (tx [97,98,99]) (tx []) (tx []) (tx [])).cs) l ?_ ?_
 .exact λf _=>dC 45 _ rfl [(0,Qd QG 1),(2,Qa (tx [97,98,99]))] rfl _ (Qk f _ _ _ kr)
 refine ac 1 34 (v:=Qf (op6 2 0 (tx [107]) (tx [100]) (tx []) (tx [])).cs) l ?_ ?_
 .exact λf _=>dC 45 _ rfl [(0,Qd QG 2),(2,Qa (tx [107])),(3,Qa (tx [100]))] rfl _ (Qk f _ _ _ kr)
 refine ac 2 35 (v:=Qf (op6 3 70 (tx [115]) (tx []) (tx []) (tx [])).cs) l ?_ ?_
 .exact λf _=>dC 45 _ rfl [(0,Qd QG 3),(2,Qa (tx [115])),(1,Qd QG 70)] rfl _ (Qk f _ _ _ kr)
 try simp only[qQ]
 refine ac 3 36 (v:=Qa kk) l ?_ ?_
 .exact λf _=>rfl
 refine ac 4 37 (v:=Qa kk) l ?_ ?_
 .exact λf _=>rfl
 refine ac 5 38 (v:=Qa k12) l ?_ ?_
 ·(intro f T;clear T;go_simp;rw[if_pos dd];kernel_rfl)
 try simp only[qQ]
 refine ac 6 39 (v:=Qf (op6 4 0 kk k12 (tx [116]) (tx [100,97,116,97])).cs) l ?_ ?_
 .exact λf _=>dC 45 _ rfl [(0,Qd QG 4),(2,Qa (kk)),(3,Qa (k12)),(4,Qa (tx [116])),(5,Qa (tx [100,97,116,97]))] rfl _ (Qk f _ _ _ kr)
 refine ac 7 40 (v:=Qa kk) l ?_ ?_
 .exact λf _=>rfl
 refine ac 8 41 (v:=Qa kk) l ?_ ?_
 .exact λf _=>rfl
 try simp only[qQ]
 refine ac 9 42 (v:=Qa k12) l ?_ ?_
 ·(intro f T;clear T;go_simp;rw[if_pos dd];kernel_rfl)
 refine ac 10 43 (v:=Qf (op6 5 0 kk k12 (tx [116]) (tx [])).cs) l ?_ ?_
 .exact λf _=>dC 45 _ rfl [(0,Qd QG 5),(2,Qa (kk)),(3,Qa (k12)),(4,Qa (tx [116]))] rfl _ (Qk f _ _ _ kr)
 refine ac 11 44 (v:=Qa kk) l ?_ ?_
 .exact λf _=>rfl
 try simp only[qQ]
 refine ac 12 45 (v:=Qf (op6 6 0 kk (tx []) (tx []) (tx [])).cs) l ?_ ?_
 .exact λf _=>dC 45 _ rfl [(0,Qd QG 6),(2,Qa (kk))] rfl _ (Qk f _ _ _ kr)
 refine ac 13 46 (v:=Qa kk) l ?_ ?_
 .exact λf _=>rfl
 refine ac 14 47 (v:=Qa kk) l ?_ ?_
 .exact λf _=>rfl
 try simp only[qQ]
 refine ac 15 48 (v:=Qf (op6 7 0 kk kk (tx []) (tx [])).cs) l ?_ ?_
 .exact λf _=>dC 45 _ rfl [(0,Qd QG 7),(2,Qa (kk)),(3,Qa (kk))] rfl _ (Qk f _ _ _ kr)
 refine ac 16 49 (v:=Qa kk) l ?_ ?_
 .exact λf _=>rfl
 refine ac 17 50 (v:=Qf (op6 8 0 kk (tx []) (tx []) (tx [])).cs) l ?_ ?_
 .exact λf _=>dC 45 _ rfl [(0,Qd QG 8),(2,Qa (kk))] rfl _ (Qk f _ _ _ kr)
 try simp only[qQ]
 refine ac 18 51 (v:=Qa kk) l ?_ ?_
 .exact λf _=>rfl
 refine ac 19 52 (v:=Qf (op6 9 0 kk (tx [100,97,116,97]) (tx []) (tx [])).cs) l ?_ ?_
 .exact λf _=>dC 45 _ rfl [(0,Qd QG 9),(2,Qa (kk)),(3,Qa (tx [100,97,116,97]))] rfl _ (Qk f _ _ _ kr)
 refine ac 20 53 (v:=Qa (tx [])) l ?_ ?_
 .exact λf _=>rfl
 try simp only[qQ]
 refine ac 21 54 (v:=Qf (op6 10 0 (tx []) (tx [100,97,116,97]) (tx []) (tx [])).cs) l ?_ ?_
 .exact λf _=>dC 45 _ rfl [(0,Qd QG 10),(2,Qa (tx [])),(3,Qa (tx [100,97,116,97]))] rfl _ (Qk f _ _ _ kr)
 refine ac 22 55 (v:=Qa kk) l ?_ ?_
 .exact λf _=>rfl
 refine ac 23 56 (v:=Qa t) l ?_ ?_
 .exact λf _=>rfl
 try simp only[qQ]
 refine ac 25 58 (v:=Qa kk) l ?_ ?_
 .exact λf _=>rfl
 refine ac 26 59 (v:=Qa kk) l ?_ ?_
 .exact λf _=>rfl
 refine ac 27 60 (v:=Qa kk2) l ?_ ?_
 ·(intro f T;clear T;go_simp;rw[if_neg dd];kernel_rfl)
 try simp only[qQ]
 refine ac 29 62 (v:=Qa kk) l ?_ ?_
 .exact λf _=>rfl
 refine ac 30 63 (v:=Qf (op6 12 0 kk (tx []) (tx []) (tx [])).cs) l ?_ ?_
 .exact λf _=>dC 45 _ rfl [(0,Qd QG 12),(2,Qa (kk))] rfl _ (Qk f _ _ _ kr)
 refine ac 31 64 (v:=Qf (op6 13 0 (tx [72,105]) (tx []) (tx []) (tx [])).cs) l ?_ ?_
 .exact λf _=>dC 45 _ rfl [(0,Qd QG 13),(2,Qa (tx [72,105]))] rfl _ (Qk f _ _ _ kr)
 try simp only[qQ]
 refine ac 32 65 (v:=Qf (op6 14 0 (tx []) (tx []) (tx []) (tx [])).cs) l ?_ ?_
 .exact λf _=>dC 45 _ rfl [(0,Qd QG 14)] rfl _ (Qk f _ _ _ kr)
 try simp only[qQ]
 refine aF 24 λK hK=>?_
 rw[if_pos (by rfl)];refine abb _ rfl t rfl ?_;refine hK.out _ _ ⟨l.1.alloc l.1.size _,l.2.alloc _⟩ ?_;clear hK K;have H:Blk (Q.alloc (QD #[Qa t] 9)) Q.heap.size #[Qa t] 9:=Blk.new _ _ _;have J:(λf=>QB w.heap.size w f/\Blk f w.heap.size zeroV.cs 43) (Q.alloc (QD #[Qa t] 9)):=⟨l.1.alloc l.1.size _,l.2.alloc _⟩;have an:w.heap.size<Q.heap.size:=l.2.lt;clear l;generalize Q.alloc (QD #[Qa t] 9)=R at H J|-;generalize Q.heap.size=g at H an|-;simp only[Act.put,List.setIfInBounds_toArray];refine ac 28 61 (v:=Qf ({k:=11,n:=0,a:=kk,b:=kk2,c:=tx [100,97,116,97],d:=tx [],p:=some ⟨g,0,none⟩,ln:=1,cp:=1}:OpV).cs) J ?_ ?_
 .exact λf _=>dC 45 _ rfl [(0,Qd QG 11),(2,Qa (kk)),(6,Qi (some ⟨g,0,none⟩) 1 1),(3,Qa (kk2)),(4,Qa (tx [100,97,116,97]))] rfl _ (Qk f _ _ _ kr)
 simp only[Act.put];refine aF 33 λK hK=>?_
 rw[if_pos (by rfl)];refine abc _ rfl _ _ rfl (abF t (tx []) g) ?_;have Z:Blk (R.alloc (QD (xQ t (tx []) g) 45)) R.heap.size (xQ t (tx []) g) 45:=Blk.new _ _ _;have L:(λf=>QB w.heap.size w f/\Blk f w.heap.size zeroV.cs 43) (R.alloc (QD (xQ t (tx []) g) 45)):=⟨J.1.alloc J.1.size _,J.2.alloc _⟩;replace H:=H.alloc (QD (xQ t (tx []) g) 45);have ay:w.heap.size<R.heap.size:=J.2.lt;refine hK.out _ _ L ?_;clear hK K J;generalize R.alloc (QD (xQ t (tx []) g) 45)=q at H Z L|-;generalize R.heap.size=F at Z ay|-;simp only[Act.put];refine ac 34 11 (v:=Qi (some ⟨F,0,none⟩) 14 14) L ?_ ?_
 .exact λf _=>rfl
 simp only[Act.put];refine aC ?_;have ap:Hid (I 0 g q q):=h0.out g q L.1 an L.2 H;have B:Hid (QB w.heap.size w q):=L.1;have rF:Hid (∀j,j<14->q.rangeAt F (j*7) (nth t (tx []) g j).row):=Zz Z;have ah:Hid (F<q.heap.size/\F≠w.heap.size):=⟨Z.lt,oo⟩;clear Z L H an ay h0;go_wp2_with fail;go_loopw [12,13] (λok i wr=> ∃j:Nat,ok=Qe true/\i=Qd QG j/\j<=14/\Hid (I j g q wr)) (λ_ i _=>14-(QC i).toNat)
 case atStart=>exact⟨0,rfl,rfl,oo,ap⟩
 case round=>
  clear ap;obtain⟨j,rfl,rfl,hj,s⟩:=hrel;by_cases P:j<14
  .have d1:decide ((j:Int)<14)=true:=decide_eq_true oo;have j0:(0:Int)<=(j:Int):=oo
   have j1:(j:Int)<14:=oo
   have x:=(X.out _ _ _ _ s.out).range (rF.out j P) ah.out.1 ah.out.2;generalize ag:nth t (tx []) g j=o at x;replace ag:Hid (nth t (tx []) g j=o):=ag;have N:=OpV.rangeK x;rw[<-OpV.toL]at x;have D:=o.size;have r:Hid (A<=o.k->o.k<=y-> ∀f,I j g q f->Qm Qn 22 #[Qc (some ⟨w.heap.size,0,none⟩),Qf o.cs] f λe w'=>e=QA (Qe true)/\I (j+1) g q w'):=λu h2 f s=>M.out j g q o oo (QH ⟨j,P,ag.out.symm,u,h2⟩) f s
   generalize o.cs=C at x D r;generalize o.k=K at N r;clear M W hs rF ag;by_cases u:A<=K
   .have d2:decide (A<=K)=true:=decide_eq_true u;replace u:Hid (A<=K):=u;by_cases h2:K<=y
    .have d3:decide (K<=y)=true:=decide_eq_true h2;replace h2:Hid (K<=y):=h2;go_wp2_with (refine jj rfl 45 _ rfl (F) (j*7) rfl C _ x Qo rfl (by rw[D];exact Tryz.infoOp) ?_);refine mo (r.out u.out h2.out _ s.out) λE z=>?_;replace z:Hid (I (j+1) g q E):=z;clear s r N x;go_wp2_with fail;go_roundw
     case rel=>exact⟨j+1,rfl,gn,oo,z⟩
     case measure=>simp[QC];omega
    .have d3:decide (K<=y)=false:=decide_eq_false h2;replace h2:Hid (¬K<=y):=h2;clear r;go_wp2_with (refine jj rfl 45 _ rfl (F) (j*7) rfl C _ x Qo rfl (by rw[D];exact Tryz.infoOp) ?_);go_roundw
     case rel=>exact⟨j+1,rfl,gn,oo,ab.out _ _ _ _ s.out⟩
     case measure=>simp[QC];omega
   .have d2:decide (A<=K)=false:=decide_eq_false u;replace u:Hid (¬A<=K):=u;clear r;go_wp2_with (refine jj rfl 45 _ rfl (F) (j*7) rfl C _ x Qo rfl (by rw[D];exact Tryz.infoOp) ?_);go_roundw
    case rel=>exact⟨j+1,rfl,gn,oo,ab.out _ _ _ _ s.out⟩
    case measure=>simp[QC];omega
  .have ax:(j:Int)=14:=oo
   rw[ax];have ao:j=14:=oo
   replace s:Hid (I 14 g q wr):=by rw[<-ao];exact s
   clear P hj rF ah ax ao;go_wp2_with fail;go_loopw [12,14] (λok i wy=> ∃j:Nat,ok=Qe true/\i=Qd QG j/\j<=n/\Hid (I (14+j) g q wy)) (λ_ i _=>n-(QC i).toNat)
   case atStart=>exact⟨0,rfl,rfl,oo,s⟩
   case round=>
    clear s;obtain⟨j,rfl,rfl,hj,s⟩:=hrel;by_cases P:j<n
    .have d1:decide ((j:Int)<(n:Int))=true:=decide_eq_true oo;have j0:(0:Int)<=(j:Int):=oo
     have j1:(j:Int)<(n:Int):=oo
     obtain⟨b,off,a0,hb,hr⟩:=hs.out j P;have x:=(X.out _ _ _ _ s.out).range (PX B.out hr hb) (QE hb B.out.size) (Nat.ne_of_lt hb);clear hr;have N:=OpV.rangeK x;rw[<-OpV.toL]at x;have D:=(O j).size;have r:Hid (¬(y<(O j).k/\(O j).k<15)-> ∀f,I (14+j) g q f->Qm Qn 22 #[Qc (some ⟨w.heap.size,0,none⟩),Qf (O j).cs] f λe w'=>e=QA (Qe true)/\I (14+j+1) g q w'):=λu f s=>M.out (14+j) g q _ oo (QI ⟨j,P,rfl,u⟩) f s
     generalize (O j).cs=C at x D r;generalize (O j).k=K at N r;subst a0;have ad:Hid (∀f,I (14+j+1) g q f->Qm Qn 23 #[Qc (some ⟨w.heap.size,0,none⟩)] f λe w'=>e=QA (Qe true)/\I (14+j+1) g q w'):=λf h=>W.out _ g q f oo h
     clear M W hs hb;by_cases u:y<K
     .have d2:decide (y<K)=true:=decide_eq_true u;replace u:Hid (y<K):=u;by_cases h2:K<15
      .have d3:decide (K<15)=true:=decide_eq_true h2;replace h2:Hid (K<15):=h2;clear r ad;go_wp2_with (refine jj rfl 45 _ rfl (b) (off+j*7) rfl C _ x Qo rfl (by rw[D];exact Tryz.infoOp) ?_);go_roundw
       case rel=>exact⟨j+1,rfl,gn,oo,ab.out _ _ _ _ s.out⟩
       case measure=>simp[QC];omega
      .have d3:decide (K<15)=false:=decide_eq_false h2;replace r:=r.out (λh=>h2 h.2);replace h2:Hid (¬K<15):=h2;replace r:Hid (∀f,I (14+j) g q f->Qm Qn 22 #[Qc (some ⟨w.heap.size,0,none⟩),Qf C] f λe w'=>e=QA (Qe true)/\I (14+j+1) g q w'):=r;go_wp2_with (refine jj rfl 45 _ rfl (b) (off+j*7) rfl C _ x Qo rfl (by rw[D];exact Tryz.infoOp) ?_);refine mo (r.out _ s.out) λE z=>?_;replace z:Hid (I (14+j+1) g q E):=z;clear s r N x;go_wp2_with fail;refine mo (ad.out _ z.out) λw3 G=>?_;replace G:Hid (I (14+j+1) g q w3):=G;clear z ad;go_wp2_with fail;go_roundw
       case rel=>exact⟨j+1,rfl,gn,oo,G⟩
       case measure=>simp[QC];omega
     .have d2:decide (y<K)=false:=decide_eq_false u;replace r:=r.out (λh=>u h.1);replace u:Hid (¬y<K):=u;replace r:Hid (∀f,I (14+j) g q f->Qm Qn 22 #[Qc (some ⟨w.heap.size,0,none⟩),Qf C] f λe w'=>e=QA (Qe true)/\I (14+j+1) g q w'):=r;go_wp2_with (refine jj rfl 45 _ rfl (b) (off+j*7) rfl C _ x Qo rfl (by rw[D];exact Tryz.infoOp) ?_);refine mo (r.out _ s.out) λE z=>?_;replace z:Hid (I (14+j+1) g q E):=z;clear s r N x;go_wp2_with fail;refine mo (ad.out _ z.out) λw3 G=>?_;replace G:Hid (I (14+j+1) g q w3):=G;clear z ad;go_wp2_with fail;go_roundw
      case rel=>exact⟨j+1,rfl,gn,oo,G⟩
      case measure=>simp[QC];omega
    .obtain rfl:j=n:=oo
     have d1:decide ((j:Int)<(j:Int))=false:=decide_eq_false oo;have az:=B.out.trans (X.out _ _ _ _ s.out).below;go_wp2;go_ret;exact⟨rfl,az⟩
theorem abE(s:Qb):(iP s).1.size<=32:=by
 unfold iP;split
 .show(dL s).size<=_
  rw[Dt];omega
 .show(⟨#[]⟩:ByteArray).size<=_
  decide
theorem Xh(s d:Qb):(eH s d).1.size<=64:=by
 unfold eH;split
 .show(eI s d++fS (oK s d)).size<=_
  rw[Qy,ym,oB];omega
 .show(⟨#[]⟩:ByteArray).size<=_
  decide
theorem Sw{a b:Qb}(c:a.size<=140737488351232)(d:b.size<=1000000):(if a.size=0 then b else a).size<=140737488351232:=by split<;>omega
theorem Vu(q k:Nat)(y:Qj)(m:Int)(r:Qs q y)(Q:k<2000000000000)(o:OpV)(u:o.Ok)(L:List ByteArray)(M:∀x,Jnv q y m k x->LOk x o L)(G:Qj)(w:Jnv q y m k G):
  Qm Qn 22 #[Qc (some ⟨q,0,none⟩),Qf o.cs] G λe w'=>e=QA (Qe true)/\Jnv q y m (k+1) w':=by
 refine aaJ (Jnv q y m k) (Jnv q y m (k+1)) (λa b h b'=>h.keep r b') (λa h=>h.up) o q G w ?_ ?_ ?_ ?_ ?_ ?_ ?_ ?_ ?_
 .rintro _ x ⟨v,T,h⟩;exact(Wx o x u h.tab).mono λe w' ⟨n,f⟩=>⟨n,Jnv.up ⟨v,T,h.keep r f⟩⟩
 .rintro c x ⟨v,T,h⟩;exact(Wy Fo o u q v x c h.ok h.ls.1 h.tab).mono λe w' ⟨n,f⟩=>⟨n,(h.aft r oo f).up⟩
 .rintro _ x ⟨v,T,h⟩;exact(YM o x u).mono λe w' ⟨n,f⟩=>⟨n,Jnv.up ⟨v,T,h.keep r f⟩⟩
 .rintro c x ⟨v,T,h⟩;exact(YL o u q v x c h.ok h.ls.1 h.tab).mono λe w' ⟨n,f⟩=>⟨n,(h.aft r oo f).up⟩
 .rintro _ x ⟨v,T,h⟩;have z:=M x ⟨v,T,h⟩;have R:=h.n;have s:=z.l;refine(aaK o v q y.heap.size x L T (fK ai o.a L o.b o.c).1 (fK ai o.a L o.b o.c).2 z.n oo oo (Th _ _ _ _ _) h.ok r.b h.kp.1.size h.ls z.c ?_ ?_).mono ?_
  .exact λl g cp P O f=>aaA ai o.a o.b o.c L P L.length cp l u.a u.c rfl oo (λB=>⟨g,O B⟩) z.z (h.tab.below f)
  .refine λl f=>aax o.a o.b o.c L o.p L.length o.cp l rfl λj N=>?_
   obtain⟨b,off,H,A,D⟩:=z.c j N;exact⟨b,off,H,QE A f.size,(f.cell (p:=⟨b,off+j,none⟩) A).trans D⟩
  .rintro e w' ⟨rfl,v',J,H,A,D,E⟩;exact⟨rfl,v',J,A,oo,D,h.kp.trans E,h.tab.but E.1 r.r,(E.1.cell (p:=⟨1,0,none⟩) r.m).trans h.mx⟩
 .rintro _ x ⟨v,T,h⟩;refine(aaL o v q x (mv ai o.a (if o.d.size=0 then v.l else o.d)).1 (mv ai o.a (if o.d.size=0 then v.l else o.d)).2.1 (if o.d.size=0 then v.l else o.d) _ _ h.ls.1 (λl=>Ui o.d v.l l) (λl f=>aaB ai o.a _ l u.a (h.tab.below f)) (λl=>aay o.a _ l (Sw u.d h.ok.l))).mono λe w' ⟨n,f⟩=>⟨n,Jnv.up ⟨v,T,h.keep r f⟩⟩
 .rintro c x ⟨v,T,h⟩;rcases c with c|c
  .refine(YI o v q x (ik o.a).1 (ik v.l).1 (ik o.a).2 (ik v.l).2 c h.ls.1 (λl=>LJ o.a l u.a) (λl=>(S3 o.a l).mono λe w' ⟨n,f⟩=>⟨n,by rw[f];exact Below.refl _ _⟩)
    (λl=>LJ v.l l (QF h.ok.l oo)) (λl=>(S3 v.l l).mono λe w' ⟨n,f⟩=>⟨n,by rw[f];exact Below.refl _ _⟩)).mono ?_
   rintro e w' ⟨rfl,I,f,rfl⟩;exact⟨rfl,((h.keep r f).set r 3 oo _ (P3 _)).up⟩
  .obtain⟨ls,b,B,h2,F⟩:=Bn (if o.d.size=0 then v.t else o.d).data.toList;exact(YJ o v q x (if o.d.size=0 then v.t else o.d) _ _ _ c h.ls.1 (λl=>Ui o.d v.t l) (λl f=>Yu _ ls b m l F B h2 (Sw u.d h.ok.t) (vT h.mx f)) (λl=>acd _ ls b l F B h2)).mono λe w' ⟨n,f⟩=>⟨n,Jnv.up ⟨v,T,h.keep r f⟩⟩
 .rintro _ x ⟨v,T,h⟩;refine(YK o v q x u h.ok h.ls.1).mono ?_;rintro e w' ⟨rfl,v',s,K,w⟩;have C:=h.ok;exact⟨rfl,(h.put r w K ⟨by rw[s.c];exact C.c,by rw[s.s];exact C.s,by rw[s.l];exact C.l,by rw[s.t];exact C.t⟩ s.lp s.ln s.lc s.mp s.mn s.mc).up⟩
 .rintro _ x ⟨v,T,h⟩;refine(Ww o v q x (iP o.a).1 (iP o.a).2 (λd=>(eH o.a d).1) (λd=>(eH o.a d).2) h.ok.l (abE _) (λd=>Xh _ _) h.ls.1 (λl=>uo o.a l) (λl d F=>Mb o.a d oo l)).mono ?_;rintro e w' ⟨rfl,I,f,w⟩;refine⟨rfl,(h.aft r (i:=2) oo ⟨I,f,?_⟩).up⟩;rcases w with w|⟨t,ht,w⟩
  .exact QH w
  .exact QI ⟨t,QF ht h.ok.l,w⟩
theorem abs(p:Qb)(a j:Nat)(c:j<14):(nth p (tx []) a j).Ok:=by
 have h:∀o∈zj p (tx []) a,o.Ok:=by
  intro o b;simp only[zj,QL,List.not_mem_nil,or_false]at b;rcases b with rfl|rfl|rfl|rfl|rfl|rfl|rfl|rfl|rfl|rfl|rfl|rfl|rfl|rfl<;>
   (refine⟨?_,?_,?_,?_,?_,?_,?_,?_⟩<;>first|decide|(dsimp only;decide))
 refine h _ ?_;unfold nth;rw[List.getD_eq_getElem?_getD,List.getElem?_eq_getElem (show j<(zj p (tx []) a).length from c)];exact List.getElem_mem _
theorem XH{p:Qb}(t:p.size<=1000000){b j q k:Nat}{g x:Qj}{m:Int}(i:j<14)(e:Blk g b #[Qa p] 9)(l:b≠q)(r:Jnv q g m k x):
  LOk x (nth p (tx []) b j) (if j=10 then [p]else []):=by
 obtain⟨v,T,h⟩:=r;have a:∀o:OpV,o.ln=0->LOk x o []:=λo d=>⟨d,ss,λk c=>absurd c ss,λk c=>absurd c ss⟩
 have s:∀o:OpV,o.ln=1->o.p=some ⟨b,0,none⟩->LOk x o [p]:=λo d n=>by
  refine⟨d,ss,λk c=>?_,λk c=>?_⟩
  .obtain rfl:k=0:=by simpa using c
   have f:Blk x b #[Qa p] 9:=(h.kp.2 b e.lt l).trans e;exact⟨b,0,n,f.lt,f.cell 0⟩
  .obtain rfl:k=0:=by simpa using c
   show p.size<=_
   omega
 match j,i with
 |0,_=>exact a _ rfl
 |1,_=>exact a _ rfl
 |2,_=>exact a _ rfl
 |3,_=>exact a _ rfl
 |4,_=>exact a _ rfl
 |5,_=>exact a _ rfl
 |6,_=>exact a _ rfl
 |7,_=>exact a _ rfl
 |8,_=>exact a _ rfl
 |9,_=>exact a _ rfl
 |10,_=>exact s _ rfl rfl
 |11,_=>exact a _ rfl
 |12,_=>exact a _ rfl
 |13,_=>exact a _ rfl
theorem OJ(s:Qb):(iB s).1.size<=1000000:=by
 unfold iB;split
 .show(gW s.data.toList).toArray.size<=_
  rw[QJ,Hv];omega
 .show(⟨#[]⟩:ByteArray).size<=_
  decide
theorem acM(z:Option Addr)(n cp:Nat)(O:Nat->OpV)(w:Qj)(m:Int)
  (Z:n<=1400000000000)
  (M:∀i,i<n-> ∃b off,z=some ⟨b,off,none⟩/\b<w.heap.size/\w.rangeAt b (off+i*7) (O i).row)
  (G:∀i,i<n->(O i).Ok/\ ∃L,LOk w (O i) L) (F:Tab ai w) (D:0<w.heap.size)
  (C:w.cell? ⟨1,0,none⟩=some (Qd QG m)):
  Rw 7 #[Qi z n cp] w (Qe true):=by
 have H:Hid (Rw 9 #[Qi z n cp,Qd QG 11,Qd QG 16] w (Qe true)):=by
  have J:=(yX C).1;refine Uh (iB kk).1 (iB kk).2 11 16 z n cp O w rfl rfl (λf=>OI kk f) oo M (λc g a f=>(QB w.heap.size w a/\w.heap.size<a.heap.size/\w.heap.size<g/\Blk a g #[Qa (iB kk).1] 9)/\Jnv w.heap.size a m c f) ?_ ?_ ?_ ?_ ?_
  .intro g a d X s K;refine⟨⟨d,s.lt,X,K⟩,zeroV,[],⟨dd,dd,dd,dd⟩,Nat.le_refl _,⟨s,w.heap.size,g,s.lt,K.lt,oo,QH ⟨rfl,rfl⟩,QH ⟨rfl,rfl⟩,λt ht=>by cases ht⟩,⟨Below.refl _ _,λ_ _ _=>rfl⟩,F.below d,vT C d⟩
  .rintro c g a f ⟨_,v,T,h⟩;exact⟨h.kp.1,h.kp.2⟩
  .rintro c g a f ⟨l,h2⟩;exact⟨l,h2.up⟩
  .rintro c g a o S ho f ⟨⟨l,h2,A,u⟩,Q⟩;have R:Qs w.heap.size a:=⟨h2,D,J⟩;have s:o.Ok/\ ∃L,∀x,Jnv w.heap.size a m c x->LOk x o L:=by
    rcases ho with ⟨j,I,rfl,_⟩|⟨i,W,rfl,_⟩
    .exact⟨abs _ _ _ I,_,λx y=>XH (OJ _) I u oo y⟩
    .obtain⟨r,L,q⟩:=G i W;refine⟨r,L,λx ⟨v,T,h⟩=>⟨q.n,q.l,λk r=>?_,q.z⟩⟩;obtain⟨b,off,N,E,P⟩:=q.c k r;have y:QB w.heap.size w x:=l.trans h.kp.1;exact⟨b,off,N,QE E y.size,(y.cell (p:=⟨b,off+k,none⟩) E).trans P⟩
   obtain⟨r,L,q⟩:=s;exact(Vu w.heap.size c a m R oo o r L q f Q).mono λe w' ⟨B,d⟩=>⟨B,⟨l,h2,A,u⟩,d⟩
  .rintro c g a f S ⟨⟨l,h2,A,u⟩,v,T,h⟩;refine(aaI v w.heap.size f T (h.ls.lst ?_)).mono λe w' ⟨B,d⟩=>⟨B,⟨l,h2,A,u⟩,v,T,h.keep ⟨h2,D,J⟩ d⟩
   have:=h.n;omega
 clear M G F D Z C;go_enter Tryz.func7,Tryz.ntmps7;go_wp2_with fail;refine H.out.mono ?_;rintro e w' ⟨rfl,d⟩;go_wp2;go_ret;exact⟨rfl,d⟩
end Go.Proofs.YtclpbaokadfhhaaGreatDoor
