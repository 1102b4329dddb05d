import Derived.Test.YtclpbaokadfhhaaGreatDoorXa
import Derived.BigQuiet
section
set_option maxRecDepth 100000
set_option maxHeartbeats 2000000
open Go renaming below_setRow->Qa,setRow_setRow->Qc,bodyPost_ret->Qd,World->Qe,run_loadVar_row->Qf,heap_alloc2_old->Qg,heap_alloc2_new->Qi,undef->Qj,Value->Qk,results->Qm,TypeId->Qn
open Go.Obj renaming cells->Qo
open Go.Value renaming int->Qp,agg->Qq,tuple->Qt,pointer->Qx
open Go.IntKind renaming u64->Qy,wrap_u64->Qz,i64->QA
open Go.Proofs.Tryz renaming underlying69->QD,prog->QE
open Go.RowKit renaming Below->QF,intOf->QG
namespace Go.Proofs.YtclpbaokadfhhaaGreatDoor
open Go.RowKit
open Blk renaming alloc->QB,new->QC
theorem bj{P:Program}{c:Func}{p q:Tmp}{b:Qn}(h:c.results=#[.cell p b,.tmp q])(tmps:Array Qk)(w:Qe)(g:Nat)(t:Qn)(a:Array Qk)(e:Nat×Nat)(d:TypeDesc)(v:Qk)
  (k:tmps.getD p Qj=Qx (some ⟨g,0,none⟩)) (m:tmps.getD q Qj=v) (i:w.heap[g]? =some (Qo a t e))
  (o:P.underlying b=some d) (f:(match d with| .struct _| .array _ _=>true|_=>false)=true) (j:(P.info? b).map (·.size)=some a.size):
  (Qm c tmps).run P w=.ok (Qt #[Qq a,v]) w:=by
 have l:tmps[p]?.getD Qj=Qx (some ⟨g,0,none⟩):=by simpa using k
 have n:tmps[q]?.getD Qj=v:=by simpa using m
 simp[Qm,h,l,n,asAddr,Qf w g t b a e d i o f j]
theorem FK{P:Program}{e:Func}{p q:Tmp}{a:Qn}(h:e.results=#[.cell p a,.cell q a])(tmps:Array Qk)(w:Qe)(g c:Nat)(t:Qn)(b cs':Array Qk)(d:TypeDesc)
  (n:tmps.getD p Qj=Qx (some ⟨g,0,none⟩)) (r:tmps.getD q Qj=Qx (some ⟨c,0,none⟩)) (j:w.heap[g]? =some (Qo b t (0,0))) (k:w.heap[c]? =some (Qo cs' t (0,0)))
  (i:P.underlying a=some d) (f:(match d with| .struct _| .array _ _=>true|_=>false)=true) (l:(P.info? a).map (·.size)=some b.size) (m:(P.info? a).map (·.size)=some cs'.size):
  (Qm e tmps).run P w=.ok (Qt #[Qq b,Qq cs']) w:=by
 have o:tmps[p]?.getD Qj=Qx (some ⟨g,0,none⟩):=by simpa using n
 have s:tmps[q]?.getD Qj=Qx (some ⟨c,0,none⟩):=by simpa using r
 simp[Qm,h,o,s,asAddr,Qf w g t a b (0,0) d j i f l,Qf w c t a cs' (0,0) d k i f m]
theorem Tryz.infoF5:(QE.info? 69).map (·.size)=some 5:=kr
theorem t69:Ty 69 5:=⟨_,QD,rfl,Tryz.infoF5⟩
theorem uW(x:Qv):bits BinOp.and Qy (U x) 2251799813685247=U (x&&&Ff_M51):=by
 rw[show (2251799813685247:Int)=U Ff_M51 by decide,nK]
theorem xM(x:Qv)(k:Int)(n:Nat)(h:(2:Int)^n=k):U x/k=U (x>>>n):=by rw[<-h,vq]
theorem At(x:Qv)(k:Int)(n:Nat)(h:(2:Int)^n=k):Qy.wrap (U x*k)=U (x<<<n):=by rw[<-h,Aa]
theorem FE(x:Qv):Qy.wrap (19*U x)=U (19*x):=by
 rw[Qz];unfold U;rw[BitVec.toNat_mul];simp
theorem yc{w:Qe}{b t:Nat}{a c d e f:Qv}(h:Blk w b (Ws [a,c,d,e,f]) t):
  w.cell? ⟨b,0,none⟩=some (Qp Qy (U a))/\w.cell? ⟨b,1,none⟩=some (Qp Qy (U c))/\w.cell? ⟨b,2,none⟩=some (Qp Qy (U d))/\w.cell? ⟨b,3,none⟩=some (Qp Qy (U e))/\w.cell? ⟨b,4,none⟩=some (Qp Qy (U f)):=
 ⟨h.cell 0,h.cell 1,h.cell 2,h.cell 3,h.cell 4⟩
theorem FZ5:(#[Qp Qy 0,Qp Qy 0,Qp Qy 0,Qp Qy 0,Qp Qy 0]:Array Qk)=Ws [0,0,0,0,0]:=rfl
theorem Lg(a:Ql)(b:Qv)(w:Qe)(j:a.length=5):
  Rw 186 #[Qq (Ws a),Qp Qy (U b)] w (Qt #[Qq (Ws (bE a b).1),Qp Qy (U (bE a b).2)]):=by
 have I:=Wz j;have c:Blk ((w.alloc (Qo (Ws a) 69)).alloc (Qo (Ws [0,0,0,0,0]) 69)) w.heap.size (Ws a) 69:=Qg w _ _;have e:Blk ((w.alloc (Qo (Ws a) 69)).alloc (Qo (Ws [0,0,0,0,0]) 69)) (w.heap.size+1) (Ws [0,0,0,0,0]) 69:=Qi w _ _;have f:QF w.heap.size w ((w.alloc (Qo (Ws a) 69)).alloc (Qo (Ws [0,0,0,0,0]) 69)):=(bR.alloc nR _).alloc ss _;have h:=Qh (p:=bE a b=cy a b 5) rfl
 generalize bE a b=R at h|-;go_enter Tryz.func186,Tryz.ntmps186;go_wp2_with fail;rw[FZ5];generalize (w.alloc (Qo (Ws a) 69)).alloc (Qo (Ws [0,0,0,0,0]) 69)=D at c e f|-;go_loopw [1,7] (λo i wr=> ∃k:Nat,k<=5/\i=Qp QA k/\o=Qp Qy (U (cy a b k).2)/\Blk wr w.heap.size (Ws (cy a b k).1) 69/\Blk wr (w.heap.size+1) (Ws [0,0,0,0,0]) 69/\QF w.heap.size w wr) (λ_ i _=>5-(QG i).toNat)
 case atStart=>exact⟨0,oo,rfl,rfl,c,e,f⟩
 case round=>
  clear c e f D;obtain⟨k,F,rfl,rfl,c,e,f⟩:=hrel;by_cases G:k<5
  .have d:=Qh (p:=cy a b (k+1)=(((cy a b k).1.set k ((cy a b k).1.getD k 0+(cy a b k).2)).set k (((cy a b k).1.getD k 0+(cy a b k).2)&&&Ff_M51),((cy a b k).1.getD k 0+(cy a b k).2)>>>51)) rfl
   have g:(cy a b k).1.length=5:=by rw[mz,j]
   generalize (cy a b k).1=L at c d g;generalize (cy a b k).2=o at d|-;have r:=c.cell k;rw[cQ _ _ oo]at r;have E:=c.frozen k;generalize L.getD k 0=x at r d;have H:(k:Int)<5:=oo
   have u:=eW x o;have m:=uW (x+o);have n:=xM (x+o) 2251799813685248 51 rfl;generalize x+o=y at u m n d;generalize y&&&Ff_M51=z at m d;generalize y>>>51=q at n d;go_wp2;go_roundw
   case rel=>
    rw[c.set,(c.row _).set,Qc,eC,eC];refine⟨k+1,oo,gn,?_,?_,e.other oo _,Qa f oo _⟩
    .rw[show cy a b (k+1)=_ from d.out]
    .rw[show cy a b (k+1)=_ from d.out];exact c.row _
   case measure=>simp[QG];omega
  .have B:k=5:=oo
   subst B;rw[show ((5:Nat):Int)=5 from rfl];have g:(cy a b 5).1.length=5:=by rw[mz,j]
   generalize cy a b 5=C at c h g|-;obtain⟨L,o⟩:=C;have s:=c;have t:=e;unfold Blk at s t;have l:(Ws L).size=5:=by rw[dA];exact g
   have A:(Ws [0,0,0,0,0]).size=5:=by rw[dA];rfl
   go_wp2_with (first
    |(refine ld t69 rfl rfl w.heap.size rfl s l ?_)
    |(refine st t69 rfl rfl (w.heap.size+1) rfl rfl t l A (aZ _) ?_))
   refine Qd (v:=Qt #[Qq (Ws L),Qp Qy (U o)]) ?_ rfl ⟨by rw[show R=_ from h.out],Qa f oo _⟩;exact bj rfl _ _ (w.heap.size+1) 69 _ (0,0) _ _ rfl rfl (e.row _) QD rfl (by rw[l];exact Tryz.infoF5)
theorem acO{w:Qe}{b t:Nat}{f g c d e u v z:Qv}(a:Blk w b (Ws [f,g,c,d,e]) t):
  ((w.setCell ⟨b,0,none⟩ (Qp Qy (U u))).setCell ⟨b,1,none⟩ (Qp Qy (U v))).setCell ⟨b,0,none⟩ (Qp Qy (U z))=w.setRow b (Ws [z,v,c,d,e]):=by
 rw[a.set,(a.row _).set,Qc,(a.row _).set,Qc];rfl
theorem M5{w:Qe}{b t:Nat}{h i j k l:Qv}(a:Blk w b (Ws [h,i,j,k,l]) t)(c d e f g:Qv):
  ((((w.setCell ⟨b,0,none⟩ (Qp Qy (U c))).setCell ⟨b,1,none⟩ (Qp Qy (U d))).setCell ⟨b,2,none⟩ (Qp Qy (U e))).setCell ⟨b,3,none⟩ (Qp Qy (U f))).setCell ⟨b,4,none⟩ (Qp Qy (U g))=w.setRow b (Ws [c,d,e,f,g]):=by
 rw[a.set,(a.row _).set,Qc,(a.row _).set,Qc,(a.row _).set,Qc,(a.row _).set,Qc];rfl
theorem Au(a:Ql)(w:Qe)(s:a.length=5):
  Rw 185 #[Qq (Ws a)] w (Qq (Ws (bD a))):=by
 have D:=Wz s;have e:Blk ((w.alloc (Qo (Ws a) 69)).alloc (Qo (Ws [0,0,0,0,0]) 69)) w.heap.size (Ws a) 69:=Qg w _ _;have i:Blk ((w.alloc (Qo (Ws a) 69)).alloc (Qo (Ws [0,0,0,0,0]) 69)) (w.heap.size+1) (Ws [0,0,0,0,0]) 69:=Qi w _ _;have h:QF w.heap.size w ((w.alloc (Qo (Ws a) 69)).alloc (Qo (Ws [0,0,0,0,0]) 69)):=(bR.alloc nR _).alloc ss _;have k:=Qh (p:=bD a=qR (bE a 0).1 (bE a 0).2) rfl
 have r:Hid (Rv 186 #[Qq (Ws a),Qp Qy 0] (Qt #[Qq (Ws (bE a 0).1),Qp Qy (U (bE a 0).2)])):=λK=>Lg a 0 K s
 have C:(bE a 0).1.length=5:=by rw[bE,mz,s]
 generalize bD a=R at k|-;generalize (bE a 0).1=L at k r C;generalize (bE a 0).2=o at k r;obtain⟨x,y,b,c,d,rfl⟩:=bH L C;have g:=Qh (p:=qR [x,y,b,c,d] o=[(x+19*o)&&&Ff_M51,y+(x+19*o)>>>51,b,c,d]) rfl
 have m:=e;unfold Blk at m;rw[<-FZ5]at m;go_enter Tryz.func185,Tryz.ntmps185;go_wp2_with (first
  |(refine ld t69 rfl rfl w.heap.size rfl m D ?_))
 rw[FZ5];clear m;generalize (w.alloc (Qo (Ws a) 69)).alloc (Qo (Ws [0,0,0,0,0]) 69)=w1 at e i h|-;refine gv r λE j=>?_
 replace e:=e.keep j;replace i:=i.keep j;replace h:=h.trans (j.mono h.size);have ab:=de (l:=[x,y,b,c,d]) e (by rw[D];rfl);have n:=e.row (Ws [x,y,b,c,d]);have f:=i.other (b':=w.heap.size) oo (Ws [x,y,b,c,d]);have I:=Qa h nR (Ws [x,y,b,c,d]);have f0:=n.frozen 0;have f1:=n.frozen 1;obtain⟨M,N,O,P,Q⟩:=yc n;have s5:(Ws [x,y,b,c,d]).size=5:=rfl;clear e i h j;have k0:=f.frozen 0;have k1:=f.frozen 1;have j:=f.frozen 2;have k3:=f.frozen 3;have k4:=f.frozen 4;obtain⟨S,T,W,X,Z⟩:=yc f;have F:=FE o;generalize 19*o=p at F g;have G:=eW x p;have t:=uW (x+p);have A:=xM (x+p) 2251799813685248 51 rfl;generalize x+p=u at G t A g;generalize u&&&Ff_M51=z at t g;generalize u>>>51=q at A g;have H:=eW y q;generalize y+q=v at H g;have B:Blk ((((E.setRow w.heap.size (Ws [x,y,b,c,d])).setCell ⟨w.heap.size,0,none⟩ (Qp Qy (U u))).setCell ⟨w.heap.size,1,none⟩ (Qp Qy (U v))).setCell ⟨w.heap.size,0,none⟩ (Qp Qy (U z))) (w.heap.size+1) (Ws [0,0,0,0,0]) 69:=by
  rw[acO n];exact f.other oo _
 have J:QF w.heap.size w ((((E.setRow w.heap.size (Ws [x,y,b,c,d])).setCell ⟨w.heap.size,0,none⟩ (Qp Qy (U u))).setCell ⟨w.heap.size,1,none⟩ (Qp Qy (U v))).setCell ⟨w.heap.size,0,none⟩ (Qp Qy (U z))):=((I.setCell nR _).setCell nR _).setCell nR _;go_wp2;rw[M5 B];refine Qd (v:=Qq (Ws [z,v,b,c,d])) ?_ rfl ⟨by rw[show R=_ from k.out,show qR [x,y,b,c,d] o=_ from g.out],Qa J oo _⟩;exact results_cell_row rfl _ _ (w.heap.size+1) 69 _ (0,0) _ rfl (B.row _) QD rfl Tryz.infoF5
theorem zN(a:Ql)(w:Qe)(G:a.length=5):
  Rw 125 #[Qq (Ws a)] w (Qq (Ws (aW a))):=by
 have Q:=Wz G;have b:Blk ((w.alloc (Qo (Ws a) 69)).alloc (Qo (Ws [0,0,0,0,0]) 69)) w.heap.size (Ws a) 69:=Qg w _ _;have n:Blk ((w.alloc (Qo (Ws a) 69)).alloc (Qo (Ws [0,0,0,0,0]) 69)) (w.heap.size+1) (Ws [0,0,0,0,0]) 69:=Qi w _ _;have h:QF w.heap.size w ((w.alloc (Qo (Ws a) 69)).alloc (Qo (Ws [0,0,0,0,0]) 69)):=(bR.alloc nR _).alloc ss _;have e:=Qh (p:=aW a=(bE (bD a) (19*(bE (bD a) 19).2)).1) rfl
 have L:=Qr λq=>Au a q G
 have c:(bD a).length=5:=by rw[jr,G]
 generalize aW a=R at e|-;generalize bD a=C at e L c;have z:Hid (Rv 186 #[Qq (Ws C),Qp Qy 19] (Qt #[Qq (Ws (bE C 19).1),Qp Qy (U (bE C 19).2)])):=λq=>Lg C 19 q c
 have H:(bE C 19).1.length=5:=by rw[bE,mz,c]
 generalize (bE C 19).1=D at z H;generalize (bE C 19).2=o at e z;have S:=FE o;generalize 19*o=p at e S;have A:=Qr λq=>Lg C p q c
 have I:(bE C p).1.length=5:=by rw[bE,mz,c]
 generalize (bE C p).1=E at e A I;generalize (bE C p).2=o2 at A;have J:=Wz c;have sD:=Wz H;have K:=Wz I;have r:=b;unfold Blk at r;rw[<-FZ5]at r;go_enter Tryz.func125,Tryz.ntmps125;go_wp2_with (first
  |(refine ld t69 rfl rfl w.heap.size rfl r Q ?_))
 rw[FZ5];clear r;generalize (w.alloc (Qo (Ws a) 69)).alloc (Qo (Ws [0,0,0,0,0]) 69)=w1 at b n h|-;refine gv L λZ u=>?_
 replace b:=b.keep u;replace n:=n.keep u;replace h:=h.trans (u.mono h.size);clear u;have t:=de (l:=C) b (by rw[Q,c]);have i:=b.row (Ws C);have j:=n.other (b':=w.heap.size) oo (Ws C);have f:=Qa h nR (Ws C);have B:=i;unfold Blk at B;go_wp2_with (first
  |(refine ld t69 rfl rfl w.heap.size rfl B J ?_))
 clear t B b n h;generalize Z.setRow w.heap.size (Ws C)=w3 at i j f|-;refine gv z λd x=>?_
 replace i:=i.keep x;replace j:=j.keep x;replace f:=f.trans (x.mono f.size);clear x;have ab:=j.lt;have P:Blk (d.alloc (Qo #[Qp Qy 0,Qp Qy 0,Qp Qy 0,Qp Qy 0,Qp Qy 0] 69)) d.heap.size #[Qp Qy 0,Qp Qy 0,Qp Qy 0,Qp Qy 0,Qp Qy 0] 69:=QC _ _ _;have t:=de (l:=D) P (by rw[H];rfl);have k:=(i.alloc (Qo #[Qp Qy 0,Qp Qy 0,Qp Qy 0,Qp Qy 0,Qp Qy 0] 69)).other (b':=d.heap.size) oo (Ws D);have s:=(j.alloc (Qo #[Qp Qy 0,Qp Qy 0,Qp Qy 0,Qp Qy 0,Qp Qy 0] 69)).other (b':=d.heap.size) oo (Ws D);have m:=Qa (f.alloc oo (Qo #[Qp Qy 0,Qp Qy 0,Qp Qy 0,Qp Qy 0,Qp Qy 0] 69)) (g:=d.heap.size) oo (Ws D);have F:=k;unfold Blk at F;go_wp2_with (first
  |(refine ld t69 rfl rfl w.heap.size rfl F J ?_))
 clear t P F i j f;generalize (d.alloc (Qo #[Qp Qy 0,Qp Qy 0,Qp Qy 0,Qp Qy 0,Qp Qy 0] 69)).setRow d.heap.size (Ws D)=w5 at k s m|-;refine gv A λw6 y=>?_
 replace k:=k.keep y;replace s:=s.keep y;replace m:=m.trans (y.mono m.size);clear y;have t:=de (l:=E) k (by rw[J,I]);have W:=k.row (Ws E);have O:=s.other (b':=w.heap.size) oo (Ws E);have X:=Qa m nR (Ws E);have M:=W;have N:=O;unfold Blk at M N;have T:(Ws [0,0,0,0,0]).size=5:=by rw[dA];rfl
 go_wp2_with (first
  |(refine ld t69 rfl rfl w.heap.size rfl M K ?_)
  |(refine st t69 rfl rfl (w.heap.size+1) rfl rfl N K T (aZ _) ?_))
 refine Qd (v:=Qq (Ws E)) ?_ rfl ⟨by rw[show R=_ from e.out],Qa X oo _⟩;exact rr t69 rfl rfl (O.row _) K
theorem WR(a b c d e:Qv)(k:Nat)(f:k<5)(w:Qe):
  (Instr.index 68 (Qq (Ws [a,b,c,d,e])) (Qp QA k)).run QE w=.ok (Qp Qy (U ([a,b,c,d,e].getD k 0))) w:=by
 obtain rfl|rfl|rfl|rfl|rfl:k=0\/k=1\/k=2\/k=3\/k=4:=oo
 all_goals kernel_rfl
theorem acP(x y:Qv):Qy.wrap (U x-U y)=U (x-y):=by
 rw[Qz];unfold U;rw[BitVec.toNat_sub];have:=x.isLt;have:=y.isLt;omega
theorem yd(a b:Ql)(w:Qe)(s:a.length=5)(u:b.length=5):
  Rw 161 #[Qq (Ws a),Qq (Ws b)] w (Qq (Ws (aI a b))):=by
 have J:=Wz s;have K:=Wz u;have c:=QB (QB (QC w (Ws a) 69) (Qo (Ws b) 69)) (Qo (Ws [0,0,0,0,0]) 69);have f:=QB (QC (w.alloc (Qo (Ws a) 69)) (Ws b) 69) (Qo (Ws [0,0,0,0,0]) 69);have d:=QC ((w.alloc (Qo (Ws a) 69)).alloc (Qo (Ws b) 69)) (Ws [0,0,0,0,0]) 69;have e:QF w.heap.size w (((w.alloc (Qo (Ws a) 69)).alloc (Qo (Ws b) 69)).alloc (Qo (Ws [0,0,0,0,0]) 69)):=
  ((bR.alloc nR _).alloc ss _).alloc (by simp;omega) _
 rw[show (w.alloc (Qo (Ws a) 69)).heap.size=w.heap.size+1 by simp]at f;rw[show ((w.alloc (Qo (Ws a) 69)).alloc (Qo (Ws b) 69)).heap.size=w.heap.size+1+1 by simp]at d;go_enter Tryz.func161,Tryz.ntmps161;go_wp2_with fail;rw[FZ5];generalize ((w.alloc (Qo (Ws a) 69)).alloc (Qo (Ws b) 69)).alloc (Qo (Ws [0,0,0,0,0]) 69)=C at c f d e|-;go_loopw [6] (λi wr=> ∃k:Nat,k<=5/\i=Qp QA k/\Blk wr w.heap.size (Ws (eL a b k)) 69/\Blk wr (w.heap.size+1) (Ws b) 69/\Blk wr (w.heap.size+1+1) (Ws [0,0,0,0,0]) 69/\QF w.heap.size w wr) (λi _=>5-(QG i).toNat)
 case atStart=>exact⟨0,oo,rfl,c,f,d,e⟩
 case round=>
  clear c f d e C;obtain⟨k,F,rfl,c,f,d,e⟩:=hrel;by_cases G:k<5
  .have o:=c.cell k;rw[cQ _ _ (by rw[uE];omega)]at o;have q:=f.cell k;rw[cQ _ _ oo]at q;have E:=c.frozen k;have j:=Qh (p:=eL a b (k+1)=(eL a b k).set k ((eL a b k).getD k 0+b.getD k 0)) rfl
   generalize (eL a b k).getD k 0=x at o j;generalize b.getD k 0=y at q j;have I:(k:Int)<5:=oo
   go_wp2_with fail;go_region
   go_wp2;go_roundw
   case rel=>
    rw[eW,c.set,eC];exact⟨k+1,oo,gn,by rw[show eL a b (k+1)=_ from j.out];exact c.row _,f.other oo _,d.other oo _,(Qa e oo _).drew⟩
   case measure=>simp[QG];omega
  .have z:k=5:=oo
   subst z;have n:=Qh (p:=aI a b=bD (eL a b 5)) rfl
   have g:(eL a b 5).length=5:=by rw[uE,s]
   have m:(bD (eL a b 5)).length=5:=by rw[jr,g]
   have h:=Qr λD=>Au _ D g
   generalize bD (eL a b 5)=R at n h m;generalize eL a b 5=S at c h g;have r:=c;unfold Blk at r;have B:=Wz g;have A:=Wz m;go_wp2_with (first
    |(refine ld t69 rfl rfl w.heap.size rfl r B ?_))
   refine gv h λL t=>?_
   replace d:=d.keep t;replace e:=e.trans (t.mono e.size);have H:=de (l:=R) d (by rw[m];rfl);go_wp2;refine Qd (v:=Qq (Ws R)) ?_ rfl ⟨by rw[show aI a b=_ from n.out],Qa e oo _⟩;exact rr t69 rfl rfl (d.row _) A
theorem xg(a b:Ql)(w:Qe)(u:a.length=5)(C:b.length=5):
  Rw 162 #[Qq (Ws a),Qq (Ws b)] w (Qq (Ws (aL a b))):=by
 have N:=Wz u;have O:=Wz C;have c:=QB (QB (QC w (Ws a) 69) (Qo (Ws b) 69)) (Qo (Ws [0,0,0,0,0]) 69);have g:=QB (QC (w.alloc (Qo (Ws a) 69)) (Ws b) 69) (Qo (Ws [0,0,0,0,0]) 69);have e:=QC ((w.alloc (Qo (Ws a) 69)).alloc (Qo (Ws b) 69)) (Ws [0,0,0,0,0]) 69;have f:QF w.heap.size w (((w.alloc (Qo (Ws a) 69)).alloc (Qo (Ws b) 69)).alloc (Qo (Ws [0,0,0,0,0]) 69)):=
  ((bR.alloc nR _).alloc ss _).alloc (by simp;omega) _
 rw[show (w.alloc (Qo (Ws a) 69)).heap.size=w.heap.size+1 by simp]at g;rw[show ((w.alloc (Qo (Ws a) 69)).alloc (Qo (Ws b) 69)).heap.size=w.heap.size+1+1 by simp]at e;go_enter Tryz.func162,Tryz.ntmps162;go_wp2_with fail;rw[FZ5];rw[show (#[Qp Qy 9007199254740916,Qp Qy 9007199254740988,Qp Qy 9007199254740988,Qp Qy 9007199254740988,Qp Qy 9007199254740988]:Array Qk)=Ws Ff_four from rfl];generalize ((w.alloc (Qo (Ws a) 69)).alloc (Qo (Ws b) 69)).alloc (Qo (Ws [0,0,0,0,0]) 69)=I at c g e f|-;go_loopw [8] (λi wr=> ∃k:Nat,k<=5/\i=Qp QA k/\Blk wr w.heap.size (Ws (dN a b k)) 69/\Blk wr (w.heap.size+1) (Ws b) 69/\Blk wr (w.heap.size+1+1) (Ws [0,0,0,0,0]) 69/\QF w.heap.size w wr) (λi _=>5-(QG i).toNat)
 case atStart=>exact⟨0,oo,rfl,c,g,e,f⟩
 case round=>
  clear c g e f I;obtain⟨k,K,rfl,c,g,e,f⟩:=hrel;by_cases F:k<5
  .have r:=c.cell k;rw[cQ _ _ (by rw[tO];omega)]at r;have s:=g.cell k;rw[cQ _ _ oo]at s;have J:=c.frozen k;have h:=Qh (p:=dN a b (k+1)=(dN a b k).set k ((dN a b k).getD k 0+(Ff_four.getD k 0-b.getD k 0))) rfl
   have D:∀m:Qe,(Instr.index 68 (Qq (Ws Ff_four)) (Qp QA k)).run QE m=.ok (Qp Qy (U (Ff_four.getD k 0))) m:=WR _ _ _ _ _ k F
   generalize (dN a b k).getD k 0=x at r h;generalize b.getD k 0=y at s h;generalize Ff_four.getD k 0=z at D h;have M:(k:Int)<5:=oo
   have B:=acP z y;generalize z-y=d at B h;go_wp2_with fail;go_region
   go_wp2;go_roundw
   case rel=>
    rw[eW,c.set,eC];exact⟨k+1,oo,gn,by rw[show dN a b (k+1)=_ from h.out];exact c.row _,g.other oo _,e.other oo _,(Qa f oo _).drew⟩
   case measure=>simp[QG];omega
  .have E:k=5:=oo
   subst E;have q:=Qh (p:=aL a b=bD (dN a b 5)) rfl
   have j:(dN a b 5).length=5:=by rw[tO,u]
   have o:(bD (dN a b 5)).length=5:=by rw[jr,j]
   have n:=Qr λm=>Au _ m j
   generalize bD (dN a b 5)=R at q n o;generalize dN a b 5=S at c n j;have t:=c;unfold Blk at t;have H:=Wz j;have G:=Wz o;go_wp2_with (first
    |(refine ld t69 rfl rfl w.heap.size rfl t H ?_))
   refine gv n λP A=>?_
   replace e:=e.keep A;replace f:=f.trans (A.mono f.size);have L:=de (l:=R) e (by rw[o];rfl);go_wp2;refine Qd (v:=Qq (Ws R)) ?_ rfl ⟨by rw[show aL a b=_ from q.out],Qa f oo _⟩;exact rr t69 rfl rfl (e.row _) G
theorem UB(x:Qv):Qy.wrap (-U x)=U (-x):=by
 rw[Qz];unfold U;rw[BitVec.toNat_neg];have:=x.isLt;omega
theorem Fd(l:Qv)(a b:Ql)(w:Qe)(J:a.length=5)(K:b.length=5):
  Rw 160 #[Qp Qy (U l),Qq (Ws a),Qq (Ws b)] w (Qt #[Qq (Ws (aY l a b).1),Qq (Ws (aY l a b).2)]):=by
 have sa:=Wz J;have sb:=Wz K;have g:=QB (QB (QB (QC w (Ws a) 69) (Qo (Ws b) 69)) (Qo (Ws [0,0,0,0,0]) 69)) (Qo (Ws [0,0,0,0,0]) 69);have e:=QB (QB (QC (w.alloc (Qo (Ws a) 69)) (Ws b) 69) (Qo (Ws [0,0,0,0,0]) 69)) (Qo (Ws [0,0,0,0,0]) 69);have f:=QB (QC ((w.alloc (Qo (Ws a) 69)).alloc (Qo (Ws b) 69)) (Ws [0,0,0,0,0]) 69) (Qo (Ws [0,0,0,0,0]) 69);have h:=QC (((w.alloc (Qo (Ws a) 69)).alloc (Qo (Ws b) 69)).alloc (Qo (Ws [0,0,0,0,0]) 69)) (Ws [0,0,0,0,0]) 69;have n:QF w.heap.size w ((((w.alloc (Qo (Ws a) 69)).alloc (Qo (Ws b) 69)).alloc (Qo (Ws [0,0,0,0,0]) 69)).alloc (Qo (Ws [0,0,0,0,0]) 69)):=
  (((bR.alloc nR _).alloc ss _).alloc (by simp;omega) _).alloc (by simp;omega) _
 rw[show (w.alloc (Qo (Ws a) 69)).heap.size=w.heap.size+1 by simp]at e;rw[show ((w.alloc (Qo (Ws a) 69)).alloc (Qo (Ws b) 69)).heap.size=w.heap.size+1+1 by simp]at f;rw[show (((w.alloc (Qo (Ws a) 69)).alloc (Qo (Ws b) 69)).alloc (Qo (Ws [0,0,0,0,0]) 69)).heap.size=w.heap.size+1+1+1 by simp]at h;have O:=UB l;have u:=Qh (p:=aY l a b=bC (-l) a b 5) rfl
 generalize -l=m at O u;generalize aY l a b=R at u|-;go_enter Tryz.func160,Tryz.ntmps160;go_wp2_with fail;rw[FZ5];generalize (((w.alloc (Qo (Ws a) 69)).alloc (Qo (Ws b) 69)).alloc (Qo (Ws [0,0,0,0,0]) 69)).alloc (Qo (Ws [0,0,0,0,0]) 69)=w1 at g e f h n|-;go_loopw [13] (λi wr=> ∃k:Nat,k<=5/\i=Qp QA k/\Blk wr w.heap.size (Ws (bC m a b k).1) 69/\Blk wr (w.heap.size+1) (Ws (bC m a b k).2) 69/\Blk wr (w.heap.size+1+1) (Ws [0,0,0,0,0]) 69/\Blk wr (w.heap.size+1+1+1) (Ws [0,0,0,0,0]) 69/\QF w.heap.size w wr) (λi _=>5-(QG i).toNat)
 case atStart=>exact⟨0,oo,rfl,g,e,f,h,n⟩
 case round=>
  clear g e f h n w1;obtain⟨k,hk,rfl,g,e,f,h,n⟩:=hrel;have z:(bC m a b k).1.length=5:=by rw[(dg m a b k).1,J]
  have A:(bC m a b k).2.length=5:=by rw[(dg m a b k).2,K]
  by_cases ab:k<5
  .have j:=Qh (p:=bC m a b (k+1)=((bC m a b k).1.set k ((bC m a b k).1.getD k 0^^^(m&&&((bC m a b k).1.getD k 0^^^(bC m a b k).2.getD k 0))),(bC m a b k).2.set k ((bC m a b k).2.getD k 0^^^(m&&&((bC m a b k).1.getD k 0^^^(bC m a b k).2.getD k 0))))) rfl
   generalize (bC m a b k).1=L at g j z;generalize (bC m a b k).2=M at e j A;have H:=g.cell k;rw[cQ _ _ oo]at H;have I:=e.cell k;rw[cQ _ _ oo]at I;have f1:=g.frozen k;have f2:=e.frozen k;generalize L.getD k 0=x at H j;generalize M.getD k 0=y at I j;have i1:(k:Int)<5:=oo
   have P:=nJ x y;generalize x^^^y=d at P j;have Q:=nK m d;generalize m&&&d=c at Q j;have S:=nJ x c;have T:=nJ y c;generalize x^^^c=x' at S j;generalize y^^^c=y' at T j;go_wp2_with fail;go_quiet (fail)
   go_wp2;go_roundw
   case rel=>
    rw[(g.drewN _).set,eC,((e.drewN _).other oo _).set,eC];refine⟨k+1,oo,gn,?_,?_,?_,?_,?_⟩
    .rw[show bC m a b (k+1)=_ from j.out];exact((g.drewN _).row _).other oo _
    .rw[show bC m a b (k+1)=_ from j.out];exact((e.drewN _).other oo _).row _
    .exact((f.drewN _).other oo _).other oo _
    .exact((h.drewN _).other oo _).other oo _
    .exact Qa (Qa (below_drewN n _) oo _) oo _
   case measure=>simp[QG];omega
  .have W:k=5:=oo
   subst W;generalize bC m a b 5=C at g e u z A|-;obtain⟨L,M⟩:=C;have X:=z;have Z:=A;clear z A;have g:=g;have e:=e;obtain⟨o,q,r,s,t,rfl⟩:=bH L X;obtain⟨B,D,E,F,G,rfl⟩:=bH M Z;obtain⟨c0,H,I,c3,c4⟩:=yc g;obtain⟨d0,d1,d2,d3,d4⟩:=yc e;obtain⟨e0,e1,e2,e3,e4⟩:=yc f;obtain⟨g0,g1,g2,g3,g4⟩:=yc h;have k0:=f.frozen 0;have k1:=f.frozen 1;have k2:=f.frozen 2;have k3:=f.frozen 3;have k4:=f.frozen 4;have m0:=h.frozen 0;have m1:=h.frozen 1;have m2:=h.frozen 2;have m3:=h.frozen 3;have m4:=h.frozen 4;go_wp2_with fail;go_region
   go_wp2;have N:Blk (wr.setRow (w.heap.size+1+1) (Ws [o,q,r,s,t])) (w.heap.size+1+1+1) (Ws [0,0,0,0,0]) 69:=h.other oo _;have r1:Blk (((wr.setRow (w.heap.size+1+1) (Ws [o,q,r,s,t])).setRow (w.heap.size+1+1+1) (Ws [B,D,E,F,G])).drew) (w.heap.size+1+1) (Ws [o,q,r,s,t]) 69:=(f.row _).other oo _;have r2:Blk (((wr.setRow (w.heap.size+1+1) (Ws [o,q,r,s,t])).setRow (w.heap.size+1+1+1) (Ws [B,D,E,F,G])).drew) (w.heap.size+1+1+1) (Ws [B,D,E,F,G]) 69:=N.row _;rw[M5 f,M5 N];refine Qd (v:=Qt #[Qq (Ws [o,q,r,s,t]),Qq (Ws [B,D,E,F,G])]) ?_ rfl ⟨by rw[show R=_ from u.out],(Qa (Qa n oo _) oo _).drew⟩;exact FK rfl _ _ (w.heap.size+1+1) (w.heap.size+1+1+1) 69 _ _ _ rfl rfl r1 r2 QD rfl Tryz.infoF5 Tryz.infoF5
end Go.Proofs.YtclpbaokadfhhaaGreatDoor
end
section
set_option maxRecDepth 100000
set_option maxHeartbeats 2000000
open BitVec renaming ofNat->Qa,toNat_add->Qc,toNat_ofNat->Qd,eq_of_toNat_eq->Qe
open Go.IntKind renaming u64->Qf,wrap_u64->Qg
open Go.Value renaming int->Qi,agg->Qj,tuple->Qk
open Go.Obj renaming cells->Qm
open Go.Proofs.Tryz renaming prog->Qn
open Go renaming World->Qo,and_low32->Qp,bodyPost_ret->Qq,below_setRow->Qt
namespace Go.Proofs.YtclpbaokadfhhaaGreatDoor
open Go.RowKit
theorem Vp(x y:Int)(b:0<=x)(a:x<18446744073709551616)(d:0<=y)(c:y<18446744073709551616)(w:Qo):
  Calls Qn 204 #[Qi Qf x,Qi Qf y] w λe w'=>e=.returned (Qk #[Qi Qf (x*y/18446744073709551616),Qi Qf (Qf.wrap (x*y))])/\w'=w:=by
 rw[<-mul64_arith x y b a d c];have f:=Qp x b a;have g:=Qp y d c;have h:=Qp (Qf.wrap (Qf.wrap (x/4294967296*(y%4294967296))+Qf.wrap (x%4294967296*(y%4294967296))/4294967296)) (by rw[Qg];omega) (by rw[Qg];omega);go_enter Tryz.func204,Tryz.ntmps204;go_wp2;go_ret2;exact⟨by simp only[Qg];rfl,rfl⟩
theorem Tryz.infoW2:(Qn.info? 162).map (·.size)=some 2:=kr
theorem EP(n:Nat)(h:n<340282366920938463463374607431768211456):(dv n).toNat=n/18446744073709551616:=by
 unfold dv;rw[Qd,Nat.mod_eq_of_lt oo]
theorem uT(n:Nat):(bn n).toNat=n%18446744073709551616:=by unfold bn;rw[Qd]
theorem RF(n:Nat)(a b:av):aO n a b<340282366920938463463374607431768211456:=Nat.mod_lt _ oo
theorem FG(x y c:Qv)(h:c.toNat<=1)(w:Qo):
  (callFunc 182 #[Qi Qf (U x),Qi Qf (U y),Qi Qf (U c)]).run Qn w=.ok (.value (Qk #[Qi Qf (U (x+y+c)),Qi Qf (U (Qa 64 ((x.toNat+y.toNat+c.toNat)/18446744073709551616)))])) w:=by
 rw[run_callFunc_extern Tryz.func182 kr kr kr (e:=add64Entry) kr,run_add64 (U x) (U y) (U c) (Cs _) (Cs _) (Cs _) (by unfold U;omega)];have d:=x.isLt;have f:=y.isLt;simp only[Result.andThen];have a:(U x+U y+U c)%18446744073709551616=U (x+y+c):=by
  unfold U;rw[Qc,Qc];omega
 have b:(U x+U y+U c)/18446744073709551616=U (Qa 64 ((x.toNat+y.toNat+c.toNat)/18446744073709551616)):=by
  rw[<-wK _ oo];unfold U;omega
 rw[a,b]
theorem Ta(n:Nat)(a b:Qv)(w:Qo):
  Rw 164 #[Qj #[Qi Qf (U (dv n)),Qi Qf (U (bn n))],Qi Qf (U a),Qi Qf (U b)] w (Qj #[Qi Qf (U (dv (aO n a b))),Qi Qf (U (bn (aO n a b)))]):=by
 have z:=a.isLt;have A:=b.isLt;have m:a.toNat*b.toNat<=18446744073709551615*18446744073709551615:=Nat.mul_le_mul oo oo;have g:=Qh λt=>by
  have:=Vp (U a) (U b) (Cs _) (XU _) (Cs _) (XU _) t;have l:U a*U b=((a.toNat*b.toNat:Nat):Int):=by unfold U;simp
  rw[l,Qg,show ((a.toNat*b.toNat:Nat):Int)/18446744073709551616=U (dv (a.toNat*b.toNat)) by unfold U;rw[EP _ oo];omega,
   show((a.toNat*b.toNat:Nat):Int)%18446744073709551616=U (bn (a.toNat*b.toNat)) by unfold U;rw[uT];omega]at this
  exact this
 have d:=FG (bn n) (bn (a.toNat*b.toNat)) 0 dd;have k:((bn n).toNat+(bn (a.toNat*b.toNat)).toNat+(0:BitVec 64).toNat)/18446744073709551616<=1:=by
  have:=(bn n).isLt;have:=(bn (a.toNat*b.toNat)).isLt;simp;omega
 have f:=FG (dv n) (dv (a.toNat*b.toNat)) (Qa 64 (((bn n).toNat+(bn (a.toNat*b.toNat)).toNat+(0:BitVec 64).toNat)/18446744073709551616)) (by rw[Qd];omega);have c:Hid (bn (aO n a b)=bn n+bn (a.toNat*b.toNat)+0/\dv (aO n a b)=dv n+dv (a.toNat*b.toNat)+Qa 64 (((bn n).toNat+(bn (a.toNat*b.toNat)).toNat+(0:BitVec 64).toNat)/18446744073709551616)):=by
  have h:aO n a b=(n+a.toNat*b.toNat)%340282366920938463463374607431768211456:=rfl;have h2:(dv n).toNat=n/18446744073709551616%18446744073709551616:=by unfold dv;rw[Qd]
  have:bn (aO n a b)=bn n+bn (a.toNat*b.toNat)+0/\dv (aO n a b)=dv n+dv (a.toNat*b.toNat)+Qa 64 (((bn n).toNat+(bn (a.toNat*b.toNat)).toNat+(0:BitVec 64).toNat)/18446744073709551616):=by
   constructor
   .apply Qe
    rw[Qc,Qc,uT,uT,uT,h];rw[show (0:BitVec 64).toNat=0 from rfl];omega
   .apply Qe
    rw[EP _ (RF _ _ _),Qc,Qc,h2,EP _ oo,Qd,uT,uT,h];rw[show (0:BitVec 64).toNat=0 from rfl];omega
  exact this
 generalize Qa 64 (((bn n).toNat+(bn (a.toNat*b.toNat)).toNat+(0:BitVec 64).toNat)/18446744073709551616)=q at d f c;generalize bn (aO n a b)=x at c|-;generalize dv (aO n a b)=u at c|-;generalize bn n=j at d c k|-;generalize dv n=i at f c|-;clear k m;generalize bn (a.toNat*b.toNat)=p at g d c;generalize dv (a.toNat*b.toNat)=o at g f c;rw[show U 0=0 from rfl]at d;generalize j+p+0=s at d c;generalize i+o+q=r at f c;have y:Below w.heap.size w ((w.alloc (Qm #[Qi Qf (U i),Qi Qf (U j)] 162)).alloc (Qm #[Qi Qf 0,Qi Qf 0] 162)):=(bR.alloc nR _).alloc ss _;go_enter Tryz.func164,Tryz.ntmps164;go_wp2_with fail;refine(g.out _).mono ?_;rintro e w' ⟨rfl,rfl⟩;go_wp2;refine Qq (v:=Qj #[Qi Qf (U r),Qi Qf (U s)]) ?_ rfl ⟨by rw[c.out.1,c.out.2],(bR.alloc nR _).alloc ss _⟩;exact results_cell_row rfl _ _ (w.heap.size+1) 162 _ (0,0) _ rfl (heap_alloc2_new w _ _) Tryz.underlying162 rfl Tryz.infoW2
theorem Ur(l:List Nat)(k:Nat)(h:k<l.length):(eu l).getD (2*k) 0=dv (l.getD k 0):=by
 induction l generalizing k with
 |nil=>simp at h
 |cons n l a=>
  cases k with
  |zero=>rfl
  |succ k=>simp only[eu,show 2*(k+1)=2*k+1+1 by omega,List.getD_cons_succ];exact a k (by simpa using h)
theorem Uq(l:List Nat)(k:Nat)(h:k<l.length):(eu l).getD (2*k+1) 0=bn (l.getD k 0):=by
 induction l generalizing k with
 |nil=>simp at h
 |cons n l a=>
  cases k with
  |zero=>rfl
  |succ k=>simp only[eu,show 2*(k+1)+1=2*k+1+1+1 by omega,List.getD_cons_succ];exact a k (by simpa using h)
theorem RP(l:List Nat)(k n:Nat):((eu l).set (2*k) (dv n)).set (2*k+1) (bn n)=eu (l.set k n):=by
 induction l generalizing k with
 |nil=>rfl
 |cons m l a=>
  cases k with
  |zero=>rfl
  |succ k=>simp only[eu,show 2*(k+1)=2*k+1+1 by omega,List.set_cons_succ,a k]
theorem YR(l:List Nat)(h:l.length=5):∃a b c d e,l=[a,b,c,d,e]:=by
 match l,h with
 | [a,b,c,d,e],_=>exact⟨a,b,c,d,e,rfl⟩
theorem Tryz.infoW10:(Qn.info? 163).map (·.size)=some 10:=kr
theorem abh:Ty 163 10:=⟨_,Tryz.underlying163,rfl,Tryz.infoW10⟩
theorem WQ(a b c d e f g h i j:Qv)(k:Nat)(l:k<5)(w:Qo):
  (Instr.index 163 (Qj (Ws [a,b,c,d,e,f,g,h,i,j])) (Qi .i64 k)).run Qn w=.ok (Qj #[Qi Qf (U ([a,c,e,g,i].getD k 0)),Qi Qf (U ([b,d,f,h,j].getD k 0))]) w:=by
 obtain rfl|rfl|rfl|rfl|rfl:k=0\/k=1\/k=2\/k=3\/k=4:=oo
 all_goals kernel_rfl
theorem YV(s:List Nat)(g:s.length=5)(k:Nat)(f:k<5)(w:Qo):
  (Instr.index 163 (Qj (Ws (eu s))) (Qi .i64 k)).run Qn w=.ok (Qj #[Qi Qf (U (dv (s.getD k 0))),Qi Qf (U (bn (s.getD k 0)))]) w:=by
 obtain⟨a,b,c,d,e,rfl⟩:=YR s g;have:=WQ (dv a) (bn a) (dv b) (bn b) (dv c) (bn c) (dv d) (bn d) (dv e) (bn e) k f w;rw[show [dv a,dv b,dv c,dv d,dv e].getD k 0=dv ([a,b,c,d,e].getD k 0) by
   obtain rfl|rfl|rfl|rfl|rfl:k=0\/k=1\/k=2\/k=3\/k=4:=oo
   all_goals rfl,
  show [bn a,bn b,bn c,bn d,bn e].getD k 0=bn ([a,b,c,d,e].getD k 0) by
   obtain rfl|rfl|rfl|rfl|rfl:k=0\/k=1\/k=2\/k=3\/k=4:=oo
   all_goals rfl]at this
 exact this
theorem YU(s:List Nat)(w:Qo)(O:s.length=5):
  Rw 165 #[Qj (Ws (eu s))] w (Qj (Ws (jS s))):=by
 have N:(eu s).length=10:=by rw[xe,O]
 have Q:=Wz N;have q:=Blk.alloc (Blk.alloc (Blk.new w (Ws (eu s)) 163) (Qm (Ws [0,0,0,0,0]) 69)) (Qm (Ws [0,0,0,0,0]) 69);have d:=Blk.alloc (Blk.new (w.alloc (Qm (Ws (eu s)) 163)) (Ws [0,0,0,0,0]) 69) (Qm (Ws [0,0,0,0,0]) 69);have a:=Blk.new ((w.alloc (Qm (Ws (eu s)) 163)).alloc (Qm (Ws [0,0,0,0,0]) 69)) (Ws [0,0,0,0,0]) 69;have e:Below w.heap.size w (((w.alloc (Qm (Ws (eu s)) 163)).alloc (Qm (Ws [0,0,0,0,0]) 69)).alloc (Qm (Ws [0,0,0,0,0]) 69)):=
  ((bR.alloc nR _).alloc ss _).alloc (by simp;omega) _
 rw[show (w.alloc (Qm (Ws (eu s)) 163)).heap.size=w.heap.size+1 by simp]at d;rw[show ((w.alloc (Qm (Ws (eu s)) 163)).alloc (Qm (Ws [0,0,0,0,0]) 69)).heap.size=w.heap.size+1+1 by simp]at a;have f:=YV s O;generalize Z:eu s=F at q d a e f Q|-;clear Z N;have m:=q;unfold Blk at m;rw[<-FZ5]at m;go_enter Tryz.func165,Tryz.ntmps165;go_wp2_with (first
  |(refine ld abh rfl rfl w.heap.size rfl m Q ?_))
 rw[FZ5];clear m;generalize ((w.alloc (Qm (Ws F) 163)).alloc (Qm (Ws [0,0,0,0,0]) 69)).alloc (Qm (Ws [0,0,0,0,0]) 69)=w1 at q d a e|-;go_loopw [4,10] (λo i wr=> ∃k:Nat,k<=5/\i=Qi .i64 k/\o=Qi Qf (U (cT s k).2)/\Blk wr (w.heap.size+1+1) (Ws (cT s k).1) 69/\Blk wr (w.heap.size+1) (Ws [0,0,0,0,0]) 69/\Below w.heap.size w wr) (λ_ i _=>5-(intOf i).toNat)
 case atStart=>exact⟨0,oo,rfl,rfl,a,d,e⟩
 case round=>
  clear q d a e w1;obtain⟨k,hk,rfl,rfl,a,d,e⟩:=hrel;have E:(cT s k).1.length=5:=Aq _ _;by_cases ad:k<5
  .have b:=Qh (p:=cT s (k+1)=((cT s k).1.set k ((bn (s.getD k 0)+(cT s k).2)&&&Ff_M51),((dv (s.getD k 0)+Qa 64 (((bn (s.getD k 0)).toNat+(cT s k).2.toNat)/18446744073709551616))<<<13)|||((bn (s.getD k 0)+(cT s k).2)>>>51))) rfl
   replace f:=f k ad;generalize (cT s k).1=L at a b E;generalize (cT s k).2=o at b|-;have n:=FG (bn (s.getD k 0)) o 0 dd;rw[show bn (s.getD k 0)+o+0=bn (s.getD k 0)+o by simp,show (0:BitVec 64).toNat=0 from rfl,Nat.add_zero,show U 0=0 from rfl]at n;generalize Qa 64 (((bn (s.getD k 0)).toNat+o.toNat)/18446744073709551616)=mo at n b;generalize bn (s.getD k 0)=H at n b f;generalize dv (s.getD k 0)=A at b f;generalize H+o=t at n b;have W:=(a.alloc (Qm #[Qi Qf (U A),Qi Qf (U H)] 162)).frozen k;have j:=(a.alloc (Qm #[Qi Qf (U A),Qi Qf (U H)] 162)).cell k;rw[cQ _ _ oo]at j;have i1:(k:Int)<5:=oo
   have B:=eW A mo;generalize A+mo=h at B b;have C:=At h 8192 13 rfl;have S:=xM t 2251799813685248 51 rfl;have D:=nT (h<<<13) (t>>>51);have T:=uW t;generalize h<<<13=X at C D b;generalize t>>>51=t' at S D b;generalize X|||t'=o' at D b
   generalize t&&&Ff_M51=z at T b;have ag:=a.lt;go_wp2;go_roundw
   case rel=>
    rw[a.set,eC];refine⟨k+1,oo,gn,?_,?_,(d.other oo _).alloc _,(Qt e oo _).alloc (by simp;omega) _⟩
    .rw[show cT s (k+1)=_ from b.out]
    .rw[show cT s (k+1)=_ from b.out];exact(a.row _).alloc _
   case measure=>simp[intOf];omega
  .have ab:k=5:=oo
   subst ab;rw[show ((5:Nat):Int)=5 from rfl];have c:=Qh (p:=jS s=bD ((cT s 5).1.set 0 ((cT s 5).1.getD 0 0+19*(cT s 5).2))) rfl
   generalize (cT s 5).1=L at a c E;generalize (cT s 5).2=o at c|-;have j:=a.cell 0;rw[cQ _ _ oo]at j;have W:=a.frozen 0;have B:=FE o;generalize L.getD 0 0=x at j c;generalize 19*o=p at B c;have C:=eW x p;generalize x+p=y at C c;have K:Blk (wr.setCell ⟨w.heap.size+1+1,0,none⟩ (Qi Qf (U y))) (w.heap.size+1+1) (Ws (L.set 0 y)) 69:=by rw[a.set,eC];exact a.row _
   have r:Blk (wr.setCell ⟨w.heap.size+1+1,0,none⟩ (Qi Qf (U y))) (w.heap.size+1) (Ws [0,0,0,0,0]) 69:=by rw[a.set];exact d.other oo _
   have g:Below w.heap.size w (wr.setCell ⟨w.heap.size+1+1,0,none⟩ (Qi Qf (U y))):=e.setCell (show w.heap.size<=w.heap.size+1+1 by omega) _;have u:(L.set 0 y).length=5:=by rw[List.length_set,E]
   generalize L.set 0 y=M at K c u;have G:(bD M).length=5:=by rw[jr,u]
   have I:=Qr λwx=>Au _ wx u
   generalize bD M=R at c I G;have J:=K;unfold Blk at J;have sM:=Wz u;have sR:=Wz G;go_wp2_with (first
    |(refine ld t69 rfl rfl (w.heap.size+1+1) rfl J sM ?_))
   refine gv I λw2 P=>?_
   replace r:=r.keep P;replace g:=g.trans (P.mono g.size);have ah:=de (l:=R) r (by rw[G];rfl);go_wp2;refine Qq (v:=Qj (Ws R)) ?_ rfl ⟨by rw[show jS s=_ from c.out],Qt g oo _⟩;exact rr t69 rfl rfl (r.row _) sR
end Go.Proofs.YtclpbaokadfhhaaGreatDoor
end
