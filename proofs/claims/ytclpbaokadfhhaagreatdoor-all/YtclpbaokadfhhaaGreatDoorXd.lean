import Derived.Test.YtclpbaokadfhhaaGreatDoorXb
set_option maxRecDepth 100000
set_option maxHeartbeats 4000000
open Go renaming below_setRow->Qa,World->Qc,bodyPost_ret->Qd,heap_alloc2_old->Qe,heap_alloc2_new->Qf
open Go.Obj renaming cells->Qg
open Go.Value renaming int->Qi,agg->Qj
open Go.IntKind renaming u64->Qk,i64->Qm,wrap_i64->Qn
open Nat renaming reduceEqDiff->Qq,mul_comm->Qt
open Go.RowKit renaming Below->Qx,intOf->Qy
open Bool renaming noConfusion->Qz
namespace Go.Proofs.YtclpbaokadfhhaaGreatDoor
open Go.RowKit
open Blk renaming alloc->Qo,new->Qp
def Eh(p:Nat)(a b:List (BitVec 64))(L:List Nat)(w:Qc):Prop:=Blk w p (Ws a) 69/\Blk w (p+1) (Ws b) 69/\Blk w (p+1+1+1) (Ws (eu L)) 163
theorem adr:(#[Qi Qk 0,Qi Qk 0,Qi Qk 0,Qi Qk 0,Qi Qk 0,Qi Qk 0,Qi Qk 0,Qi Qk 0,Qi Qk 0,Qi Qk 0]:Array Value)=Ws [0,0,0,0,0,0,0,0,0,0]:=rfl
theorem Tp:eu [0,0,0,0,0]=[0,0,0,0,0,0,0,0,0,0]:=dd
theorem NE{w:Qc}{g:Nat}{L:List Nat}(h:Blk w g (Ws (eu L)) 163)(k:Nat)(a:k<L.length):
  w.cell? ⟨g,k*2,none⟩=some (Qi Qk (U (dv (L.getD k 0))))/\w.cell? ⟨g,k*2+1,none⟩=some (Qi Qk (U (bn (L.getD k 0)))):=by
 have b:=xe L;rw[h.cell,h.cell,cQ _ _ oo,cQ _ _ oo,Qt k 2,Ur L k a,Uq L k a];exact⟨rfl,rfl⟩
theorem SF{w:Qc}{g:Nat}{L:List Nat}(h:Blk w g (Ws (eu L)) 163)(k n:Nat):
  (w.setCell ⟨g,k*2,none⟩ (Qi Qk (U (dv n)))).setCell ⟨g,k*2+1,none⟩ (Qi Qk (U (bn n)))=w.setRow g (Ws (eu (L.set k n))):=by
 rw[h.set,(h.row _).set,setRow_setRow,eC,eC,Qt k 2,RP]
theorem eE(a b:Ql)(w:Qc)(ha:a.length=5)(hb:b.length=5):
  Rw 111 #[Qj (Ws a),Qj (Ws b)] w (Qj (Ws (aa a b))):=by
 have sa:=Wz ha;have sb:=Wz hb;have M:=Qo (Qo (Qo (Qp w (Ws a) 69) (Qg (Ws b) 69)) (Qg (Ws [0,0,0,0,0]) 69)) (Qg (Ws [0,0,0,0,0,0,0,0,0,0]) 163);have G:=Qo (Qo (Qp (w.alloc (Qg (Ws a) 69)) (Ws b) 69) (Qg (Ws [0,0,0,0,0]) 69)) (Qg (Ws [0,0,0,0,0,0,0,0,0,0]) 163);have g:=Qo (Qp ((w.alloc (Qg (Ws a) 69)).alloc (Qg (Ws b) 69)) (Ws [0,0,0,0,0]) 69) (Qg (Ws [0,0,0,0,0,0,0,0,0,0]) 163);have N:=Qp (((w.alloc (Qg (Ws a) 69)).alloc (Qg (Ws b) 69)).alloc (Qg (Ws [0,0,0,0,0]) 69)) (Ws [0,0,0,0,0,0,0,0,0,0]) 163;have o:Qx w.heap.size w ((((w.alloc (Qg (Ws a) 69)).alloc (Qg (Ws b) 69)).alloc (Qg (Ws [0,0,0,0,0]) 69)).alloc (Qg (Ws [0,0,0,0,0,0,0,0,0,0]) 163)):=
  (((bR.alloc nR _).alloc ss _).alloc (by simp;omega) _).alloc (by simp;omega) _
 rw[show (w.alloc (Qg (Ws a) 69)).heap.size=w.heap.size+1 by simp]at G;rw[show ((w.alloc (Qg (Ws a) 69)).alloc (Qg (Ws b) 69)).heap.size=w.heap.size+1+1 by simp]at g;rw[show (((w.alloc (Qg (Ws a) 69)).alloc (Qg (Ws b) 69)).alloc (Qg (Ws [0,0,0,0,0]) 69)).heap.size=w.heap.size+1+1+1 by simp,<-Tp]at N;go_enter Tryz.func111,Tryz.ntmps111;go_wp2_with fail;rw[FZ5,adr,<-Tp];rw[<-Tp]at M G g o;generalize (((w.alloc (Qg (Ws a) 69)).alloc (Qg (Ws b) 69)).alloc (Qg (Ws [0,0,0,0,0]) 69)).alloc (Qg (Ws (eu [0,0,0,0,0])) 163)=w1 at M G g N o|-;go_loopw [9] (λi wr=> ∃k:Nat,k<=5/\i=Qi Qm k/\Eh w.heap.size a b (fY a b k) wr/\Blk wr (w.heap.size+1+1) (Ws [0,0,0,0,0]) 69/\Qx w.heap.size w wr) (λi _=>5-(Qy i).toNat)
 case atStart=>exact⟨0,oo,rfl,⟨M,G,N⟩,g,o⟩
 case round=>
  clear M G g N o w1;obtain⟨i,hi,rfl,t,g,o⟩:=hrel;by_cases ap:i<5
  .have i1:(i:Int)<5:=oo
   have E:(fY a b i).length=5:=yx _ _ _;have HT:=Qh (p:=fY a b (i+1)=jJ a b (fY a b i) i 5) rfl
   generalize fY a b i=S at t E HT;go_wp2_with fail;go_loopw [12] (λc wr=> ∃j:Nat,j<=5/\c=Qi Qm j/\Eh w.heap.size a b (jJ a b S i j) wr/\Blk wr (w.heap.size+1+1) (Ws [0,0,0,0,0]) 69/\Qx w.heap.size w wr) (λc _=>5-(Qy c).toNat)
   case atStart=>exact⟨0,oo,rfl,t,g,o⟩
   case round=>
    clear t g o;obtain⟨j,hj,rfl,t,g,o⟩:=hrel;by_cases ao:j<5
    .have j1:(j:Int)<5:=oo
     have an:(jJ a b S i j).length=5:=by rw[BU,E]
     have Q:=Qh (p:=jJ a b S i (j+1)=nm (jJ a b S i j) a b i j) rfl
     generalize jJ a b S i j=L at t an Q;have I:Hid (∀e:Qc,Blk e w.heap.size (Ws a) 69->e.cell? ⟨w.heap.size,i,none⟩=some (Qi Qk (U (a.getD i 0)))):=λe h=>by rw[h.cell,cQ _ _ oo]
     have J:Hid (∀e:Qc,Blk e (w.heap.size+1) (Ws b) 69->e.cell? ⟨w.heap.size+1,j,none⟩=some (Qi Qk (U (b.getD j 0)))):=λe h=>by rw[h.cell,cQ _ _ oo]
     by_cases hs:i+j<5
     .skip;have s1:(i:Int)+(j:Int)<5:=oo
      have s2:((i:Int)+(j:Int)).toNat=i+j:=oo
      have s3:(0:Int)<=(i:Int)+(j:Int):=oo
      have s4:Qm.wrap ((i:Int)+(j:Int))=(i:Int)+(j:Int):=by rw[Qn];omega
      have s:=Qh (p:=nm L a b i j=L.set (i+j) (aO (L.getD (i+j) 0) (a.getD i 0) (b.getD j 0))) (by unfold nm;rw[if_pos hs])
      have u:Hid (∀e:Qc,Blk e (w.heap.size+1+1+1) (Ws (eu L)) 163->e.cell? ⟨w.heap.size+1+1+1,(i+j)*2,none⟩=some (Qi Qk (U (dv (L.getD (i+j) 0))))/\e.cell? ⟨w.heap.size+1+1+1,(i+j)*2+1,none⟩=some (Qi Qk (U (bn (L.getD (i+j) 0))))):=λe h=>NE h (i+j) oo
      generalize hn:L.getD (i+j) 0=n at s u;clear hn;generalize a.getD i 0=x at I s;generalize b.getD j 0=y at J s;have A:=Qr (Ta n x y)
      generalize aO n x y=m at A s;generalize hH:dv n=nh at u A;generalize hO:bn n=nl at u A;clear hH hO;go_wp2_with fail;have d:Eh w.heap.size a b L wr.drew:=t;have D:Blk wr.drew (w.heap.size+1+1) (Ws [0,0,0,0,0]) 69:=g;have B:=o.drew;refine tp (S:=Eh w.heap.size a b L) (l:=12) kr ?_;clear t g o;generalize World.drew wr=wd at d D B|-;refine eq 0 d ?_;refine eq 1 d ?_;refine eq 2 d ?_;refine nH (i:=3) (v:= ?v3p) rfl kr kr kr kr kr (λ_ _ _ h=>h) (Or.inl ⟨by rfl,?hy3p⟩) d ?Y;case hy3p=>(intro e q;obtain⟨C,X⟩:=u.out e q.2.2;clear q;go_simp;try (with_reducible rfl))
      refine eq 4 d ?_;refine eq 5 d ?_;refine nH (i:=6) (v:= ?v6p) rfl kr kr kr kr kr (λ_ _ _ h=>h) (Or.inl ⟨by rfl,?hy6p⟩) d ?rest6p;case hy6p=>(intro e q;have C:=I.out e q.1;clear q;go_simp;try (with_reducible rfl))
      refine eq 7 d ?_;refine eq 8 d ?_;refine nH (i:=9) (v:= ?v9p) rfl kr kr kr kr kr (λ_ _ _ h=>h) (Or.inl ⟨by rfl,?hy9p⟩) d ?rest9p;case hy9p=>(intro e q;have C:=J.out e q.2.1;clear q;go_simp;try (with_reducible rfl))
      refine ve (i:=10) kr rfl (λK z=>?_);go_simp;go_wp2_with (go_at_call 164;refine gv A λH r=>?_);have f:Eh w.heap.size a b L H:=⟨d.1.keep r,d.2.1.keep r,d.2.2.keep r⟩;have ad:=D.keep r;have W:=B.trans (r.mono B.size);refine z.out _ _ f ?_;clear z K d D B r;try simp only[qQ]
      refine eq 11 f ?_;refine xi kr rfl kr (λK z=>?_);obtain⟨C,X⟩:=u.out H f.2.2;have f0:=f.2.2.frozen ((i+j)*2);have f1:=f.2.2.frozen ((i+j)*2+1);go_simp;refine z.out _ _ ?_;clear z K;go_wp2;go_roundw
      case rel=>
       rw[SF f.2.2 (i+j) m];refine⟨j+1,oo,gn,⟨f.1.other oo _,f.2.1.other oo _,?_⟩,ad.other oo _,Qa W oo _⟩;rw[show jJ a b S i (j+1)=_ from Q.out,show nm L a b i j=_ from s.out];exact f.2.2.row _
      case measure=>simp[Qy];omega
     .skip;have s1:¬(i:Int)+(j:Int)<5:=oo
      have s2:((i:Int)+(j:Int)-5).toNat=i+j-5:=oo
      have s3:(0:Int)<=(i:Int)+(j:Int)-5:=oo
      have s5:(i:Int)+(j:Int)-5<5:=oo
      have s4:Qm.wrap ((i:Int)+(j:Int))=(i:Int)+(j:Int):=by rw[Qn];omega
      have s6:Qm.wrap ((i:Int)+(j:Int)-5)=(i:Int)+(j:Int)-5:=by rw[Qn];omega
      have s:=Qh (p:=nm L a b i j=L.set (i+j-5) (aO (L.getD (i+j-5) 0) (a.getD i 0) (19*b.getD j 0))) (by unfold nm;rw[if_neg hs])
      have u:Hid (∀e:Qc,Blk e (w.heap.size+1+1+1) (Ws (eu L)) 163->e.cell? ⟨w.heap.size+1+1+1,(i+j-5)*2,none⟩=some (Qi Qk (U (dv (L.getD (i+j-5) 0))))/\e.cell? ⟨w.heap.size+1+1+1,(i+j-5)*2+1,none⟩=some (Qi Qk (U (bn (L.getD (i+j-5) 0))))):=λe h=>NE h (i+j-5) oo
      generalize hn:L.getD (i+j-5) 0=n at s u;clear hn;generalize a.getD i 0=x at I s;generalize b.getD j 0=y at J s;have a3:=FE y;generalize 19*y=y9 at a3 s;have A:=Qr (Ta n x y9)
      generalize aO n x y9=m at A s;generalize hH:dv n=nh at u A;generalize hO:bn n=nl at u A;clear hH hO;go_wp2_with fail;have d:Eh w.heap.size a b L wr.drew:=t;have D:Blk wr.drew (w.heap.size+1+1) (Ws [0,0,0,0,0]) 69:=g;have B:=o.drew;refine tp (S:=Eh w.heap.size a b L) (l:=15) kr ?_;clear t g o;generalize World.drew wr=wd at d D B|-;refine eq 0 d ?_;refine eq 1 d ?_;refine eq 2 d ?_;refine eq 3 d ?_;refine eq 4 d ?_;refine nH (i:=5) (v:= ?v5m) rfl kr kr kr kr kr (λ_ _ _ h=>h) (Or.inl ⟨by rfl,?hy5m⟩) d ?rest5m;case hy5m=>(intro e q;obtain⟨C,X⟩:=u.out e q.2.2;clear q;go_simp;try (with_reducible rfl))
      refine eq 6 d ?_;refine eq 7 d ?_;refine nH (i:=8) (v:= ?v8m) rfl kr kr kr kr kr (λ_ _ _ h=>h) (Or.inl ⟨by rfl,?hy8m⟩) d ?rest8m;case hy8m=>(intro e q;have C:=I.out e q.1;clear q;go_simp;try (with_reducible rfl))
      refine eq 9 d ?_;refine eq 10 d ?_;refine nH (i:=11) (v:= ?v11m) rfl kr kr kr kr kr (λ_ _ _ h=>h) (Or.inl ⟨by rfl,?hy11m⟩) d ?V;case hy11m=>(intro e q;have C:=J.out e q.2.1;clear q;go_simp;try (with_reducible rfl))
      refine eq 12 d ?_;refine ve (i:=13) kr rfl (λK z=>?_);go_simp;go_wp2_with (go_at_call 164;refine gv A λH r=>?_);have f:Eh w.heap.size a b L H:=⟨d.1.keep r,d.2.1.keep r,d.2.2.keep r⟩;have ad:=D.keep r;have W:=B.trans (r.mono B.size);refine z.out _ _ f ?_;clear z K d D B r;try simp only[qQ]
      refine eq 14 f ?_;refine xi kr rfl kr (λK z=>?_);obtain⟨C,X⟩:=u.out H f.2.2;have f0:=f.2.2.frozen ((i+j-5)*2);have f1:=f.2.2.frozen ((i+j-5)*2+1);go_simp;refine z.out _ _ ?_;clear z K;go_wp2;go_roundw
      case rel=>
       rw[SF f.2.2 (i+j-5) m];refine⟨j+1,oo,gn,⟨f.1.other oo _,f.2.1.other oo _,?_⟩,ad.other oo _,Qa W oo _⟩;rw[show jJ a b S i (j+1)=_ from Q.out,show nm L a b i j=_ from s.out];exact f.2.2.row _
      case measure=>simp[Qy];omega
    .have ag:j=5:=oo
     subst ag;go_wp2;go_roundw
     case rel=>exact⟨i+1,oo,gn,by rw[show fY a b (i+1)=_ from HT.out];exact t,g,o⟩
     case measure=>simp[Qy];omega
  .have ah:i=5:=oo
   subst ah;rw[show ((5:Nat):Int)=5 from rfl];have E:(fY a b 5).length=5:=yx _ _ _;have P:=Qh (p:=aa a b=jS (fY a b 5)) (by unfold aa;rfl)
   generalize fY a b 5=T at E t P;have O:=Qr λe=>YU _ e E
   have ab:(jS T).length=5:=zG _;generalize jS T=R at O ab P;have Z:=t.2.2;unfold Blk at Z;have sT:(Ws (eu T)).size=10:=by rw[dA,xe,E]
   have sR:=Wz ab;generalize eu T=F at O Z sT;go_wp2_with (first
    |(refine ld abh rfl rfl (w.heap.size+1+1+1) rfl Z sT ?_))
   refine gv O λw2 k2=>?_
   replace g:=g.keep k2;replace o:=o.trans (k2.mono o.size);have ax:=de (l:=R) g (by rw[ab];rfl);go_wp2;refine Qd (v:=Qj (Ws R)) ?_ rfl ⟨by rw[show aa a b=R from P.out],Qa o oo _⟩;exact rr t69 rfl rfl (g.row _) sR
theorem oY(a:Ql)(w:Qc)(e:a.length=5):
  Rw 163 #[Qj (Ws a)] w (Qj (Ws (aa a a))):=by
 have k:=Wz e;have h:Blk ((w.alloc (Qg (Ws a) 69)).alloc (Qg (Ws [0,0,0,0,0]) 69)) w.heap.size (Ws a) 69:=Qe w _ _;have c:Blk ((w.alloc (Qg (Ws a) 69)).alloc (Qg (Ws [0,0,0,0,0]) 69)) (w.heap.size+1) (Ws [0,0,0,0,0]) 69:=Qf w _ _;have b:Qx w.heap.size w ((w.alloc (Qg (Ws a) 69)).alloc (Qg (Ws [0,0,0,0,0]) 69)):=(bR.alloc nR _).alloc ss _;have g:=Qr λm=>eE a a m e e
 have f:(aa a a).length=5:=aw _ _;generalize aa a a=R at g f|-;have j:=Wz f;have d:=h;unfold Blk at d;rw[<-FZ5]at d;go_enter Tryz.func163,Tryz.ntmps163;go_wp2_with (first
  |(refine ld t69 rfl rfl w.heap.size rfl d k ?_))
 rw[FZ5];clear d;generalize (w.alloc (Qg (Ws a) 69)).alloc (Qg (Ws [0,0,0,0,0]) 69)=o at h c b|-;refine gv g λp i=>?_
 replace c:=c.keep i;replace b:=b.trans (i.mono b.size);have n:=de (l:=R) c (by rw[f];rfl);go_wp2;refine Qd (v:=Qj (Ws R)) ?_ rfl ⟨rfl,Qa b oo _⟩;exact rr t69 rfl rfl (c.row _) j
theorem As(a:Ql)(n:Nat)(w:Qc)(u:a.length=5)(G:n<=1000):
  Rw 166 #[Qj (Ws a),Qi Qm n] w (Qj (Ws (aX a n))):=by
 have J:=Wz u;have b:Blk ((w.alloc (Qg (Ws a) 69)).alloc (Qg (Ws [0,0,0,0,0]) 69)) w.heap.size (Ws a) 69:=Qe w _ _;have d:Blk ((w.alloc (Qg (Ws a) 69)).alloc (Qg (Ws [0,0,0,0,0]) 69)) (w.heap.size+1) (Ws [0,0,0,0,0]) 69:=Qf w _ _;have c:Qx w.heap.size w ((w.alloc (Qg (Ws a) 69)).alloc (Qg (Ws [0,0,0,0,0]) 69)):=(bR.alloc nR _).alloc ss _;obtain⟨g,h⟩:∃g,g=aX a n:=⟨_,rfl⟩
 have y:=Qh h;rw[<-h];clear h;go_enter Tryz.func166,Tryz.ntmps166;go_wp2_with fail;rw[FZ5];generalize (w.alloc (Qg (Ws a) 69)).alloc (Qg (Ws [0,0,0,0,0]) 69)=C at b d c|-;go_loopw [6] (λi wr=> ∃(k:Nat) (L:List (BitVec 64)),k<=n/\Hid (L=aX a k)/\i=Qi Qm k/\Blk wr w.heap.size (Ws L) 69/\Blk wr (w.heap.size+1) (Ws [0,0,0,0,0]) 69/\Qx w.heap.size w wr) (λi _=>n-(Qy i).toNat)
 case atStart=>exact⟨0,a,oo,(show a=aX a 0 from rfl),rfl,b,d,c⟩
 case round=>
  clear b d c C;obtain⟨k,S,E,f,rfl,b,d,c⟩:=hrel;have o:S.length=5:=by rw[show S=aX a k from f.out];exact oy _ u _
  by_cases F:k<n
  .have B:(k:Int)<n:=oo
   have s:=Qh (p:=aa S S=aX a (k+1)) (by rw[show S=aX a k from f.out];rfl)
   clear f;have r:=Qr λD=>oY S D o
   have m:(aa S S).length=5:=aw _ _;generalize aa S S=R at r m s;have x:=Wz o;have I:=Wz m;have e:=b;unfold Blk at e;go_wp2_with (first
    |(refine ld t69 rfl rfl w.heap.size rfl e x ?_))
   clear e;refine gv r λK q=>?_
   replace b:=b.keep q;replace d:=d.keep q;replace c:=c.trans (q.mono c.size);have H:=de (l:=R) b (by rw[m,x]);go_wp2;go_roundw
   case rel=>
    exact⟨k+1,R,oo,s,gn,b.row _,d.other oo _,Qa c oo _⟩
   case measure=>simp[Qy];omega
  .have A:k=n:=oo
   subst A;have B:¬(k:Int)<k:=oo
   have e:=b;have t:=d;unfold Blk at e t;have j:=Wz o;have z:(Ws [0,0,0,0,0]).size=5:=by rw[dA];rfl
   go_wp2_with (first
    |(refine ld t69 rfl rfl w.heap.size rfl e j ?_)
    |(refine st t69 rfl rfl (w.heap.size+1) rfl rfl t j z (aZ _) ?_))
   refine Qd (v:=Qj (Ws S)) ?_ rfl ⟨?_,Qa c oo _⟩
   .exact rr t69 rfl rfl (d.row _) j
   .rw[show g=_ from y.out,<-show S=_ from f.out]
def OneW(w:Qc)(p h:Nat)(a H:List (BitVec 64))(w':Qc):Prop:=
 Blk w' p (Ws a) 69/\Blk w' (p+1) (Ws [0,0,0,0,0]) 69/\Blk w' h (Ws H) 69/\Qx p w w'
theorem OneW.keep{w c d:Qc}{p h:Nat}{a H:Ql}(b:OneW w p h a H c)(k:Qx c.heap.size c d):OneW w p h a H d:=
 ⟨b.1.keep k,b.2.1.keep k,b.2.2.1.keep k,b.2.2.2.trans (k.mono (by have:=b.1.lt;omega))⟩
theorem OneW.alloc{w c:Qc}{p h:Nat}{a H:Ql}(b:OneW w p h a H c)(o:Obj):OneW w p h a H (c.alloc o):=
 ⟨b.1.alloc _,b.2.1.alloc _,b.2.2.1.alloc _,b.2.2.2.alloc (by have:=b.1.lt;omega) _⟩
def SqS(q p:Nat)(T a:List (BitVec 64))(w':Qc):Prop:=Blk w' q (Ws T) 69/\Blk w' p (Ws a) 69
def adp(w:Qc)(p h:Nat)(a H SQ T:List (BitVec 64))(d:Nat->Bool)(u:Nat->Value)(w':Qc):Prop:=
 (d 3=true->u 17=Qj (Ws SQ))/\(d 5=true->u 19=Qj (Ws T))/\(d 6=true-> ∃q,u 6=.pointer (some ⟨q,0,none⟩)/\Blk w' q (Ws [0,0,0,0,0]) 69/\p+1<q)/\OneW w p h a H w'
theorem UA(a H:Ql)(n:Nat)(w:Qc)(ha:a.length=5)(N:H.length=5)(hn:n<=1000)(a2:¬n=1)(a1:1<=n)
  (IH:Rv 167 #[Qj (Ws a),Qi Qm ((n/2:Nat):Int)] (Qj (Ws H))):
  Rw 167 #[Qj (Ws a),Qi Qm n] w (Qj (Ws (l9 a H n))):=by
 have sa:=Wz ha;have sH:=Wz N;have G:Blk ((w.alloc (Qg (Ws a) 69)).alloc (Qg (Ws [0,0,0,0,0]) 69)) w.heap.size (Ws a) 69:=Qe w _ _;have I:Blk ((w.alloc (Qg (Ws a) 69)).alloc (Qg (Ws [0,0,0,0,0]) 69)) (w.heap.size+1) (Ws [0,0,0,0,0]) 69:=Qf w _ _;have D:Qx w.heap.size w ((w.alloc (Qg (Ws a) 69)).alloc (Qg (Ws [0,0,0,0,0]) 69)):=(bR.alloc nR _).alloc ss _;have e2:((n/2:Nat):Int)=(n:Int)/2:=oo
 have HO:Hid (Rv 167 #[Qj (Ws a),Qi Qm ((n:Int)/2)] (Qj (Ws H))):=by rw[<-e2];exact IH
 have W:Hid (Rv 166 #[Qj (Ws H),Qi Qm ((n:Int)/2)] (Qj (Ws (aX H (n/2))))):=by
  rw[<-e2];exact λb=>As H (n/2) b N oo
 clear IH;have ag:(aX H (n/2)).length=5:=oy _ N _;have r:=Qh (p:=l9 a H n=if n%2=1 then aa (aa (aa (aX H (n/2)) H) (aa (aX H (n/2)) H)) a else aa (aX H (n/2)) H) rfl
 generalize l9 a H n=m at r|-;generalize aX H (n/2)=J at W ag r;have X:=Qr λb=>eE J H b ag N
 have ad:(aa J H).length=5:=aw _ _;generalize aa J H=T at X ad r;have ao:=Qr λb=>oY T b ad
 have ay:(aa T T).length=5:=aw _ _;generalize aa T T=UU at ao ay r;have ap:=Qr λb=>eE UU a b ay ha
 have ah:(aa UU a).length=5:=aw _ _;generalize aa UU a=VV at ap ah r;have Q:=Wz ad;have sV:=Wz ah;have sQ:=Wz ag;have i1:¬(n:Int)=1:=oo
 have iw:Qm.wrap ((n:Int)/2)=(n:Int)/2:=by rw[Qn];omega
 have o:=G;unfold Blk at o;rw[<-FZ5]at o;go_enter Tryz.func167,Tryz.ntmps167;go_wp2_with (first
  |(refine ld t69 rfl rfl w.heap.size rfl o sa ?_))
 rw[FZ5];clear o;generalize (w.alloc (Qg (Ws a) 69)).alloc (Qg (Ws [0,0,0,0,0]) 69)=w1 at G I D|-;refine gv HO λt k2=>?_
 replace G:=G.keep k2;replace I:=I.keep k2;replace D:=D.trans (k2.mono D.size);clear k2;have a0:=I.lt;have an:Blk (t.alloc (Qg #[Qi Qk 0,Qi Qk 0,Qi Qk 0,Qi Qk 0,Qi Qk 0] 69)) t.heap.size #[Qi Qk 0,Qi Qk 0,Qi Qk 0,Qi Qk 0,Qi Qk 0] 69:=Qp _ _ _;have O:=de (l:=H) an (by rw[N];rfl);have A:OneW w w.heap.size t.heap.size a H ((t.alloc (Qg #[Qi Qk 0,Qi Qk 0,Qi Qk 0,Qi Qk 0,Qi Qk 0] 69)).setRow t.heap.size (Ws H)):=
  ⟨(G.alloc _).other oo _,(I.alloc _).other oo _,an.row _,Qa (D.alloc oo _) oo _⟩
 go_wp2_with fail;clear O an G I D;generalize (t.alloc (Qg #[Qi Qk 0,Qi Qk 0,Qi Qk 0,Qi Qk 0,Qi Qk 0] 69)).setRow t.heap.size (Ws H)=w3 at A|-;generalize t.heap.size=h at A a0|-;refine bu (S:=OneW w w.heap.size h a H) (ls:=[7]) kr ?_;have F:OneW w w.heap.size h a H w3.drew:=⟨A.1,A.2.1,A.2.2.1,A.2.2.2.drew⟩;generalize World.drew w3=wd at F|-;clear A;refine ac 0 14 (v:=Qj (Ws H)) F ?_ ?_
 .exact λb x=>xl t69 x.2.2.1 sH rfl rfl
 refine ae 1 15 F ?_;refine ae 2 16 F ?_;refine ac 4 18 (v:=Qj (Ws H)) F ?_ ?_
 .exact λb x=>xl t69 x.2.2.1 sH rfl rfl
 simp only[qQ];change bP _ _ _ _ _ _ 4 #[true,true,true,false,true,false,false,false] _ _;refine De (R:=adp w w.heap.size h a H J T) [6,17,19] [3,5,6] #[true,true,true,true,true,true,true,false] kr kr kr ⟨λh=>Qz h,λh=>Qz h,λh=>Qz h,F⟩ ?U ?V;case U=>
  refine StepsU.cons rfl ?Y (StepsU.cons rfl ?s5 (StepsU.cons rfl ?s6 StepsU.nil));case Y=>
   rintro d u b ⟨s,y,z,f⟩ B K c;simp only[bK,qF,qQ];go_simp;go_wp2_with (go_at_call 166;refine gv W λx0 i=>?_);refine c.out (upV u 17 (Qj (Ws J))) _ (f.keep i) ⟨λ_=>rfl,λh=>y h,λh=>(by obtain⟨q,e,hb,C⟩:=z h;exact⟨q,e,hb.keep i,C⟩),f.keep i⟩ _ ?_;simp only[bK,qF,qQ,upV,reduceIte,Qq]
  case s5=>
   rintro d u b ⟨s,y,z,f⟩ B K c;have L:=s (B 3 kr);simp only[bK,qF,qQ,L];go_simp;go_wp2_with (go_at_call 111;refine gv X λx0 i=>?_);refine c.out (upV u 19 (Qj (Ws T))) _ (f.keep i) ⟨λh=>s h,λ_=>rfl,λh=>(by obtain⟨q,e,hb,C⟩:=z h;exact⟨q,e,hb.keep i,C⟩),f.keep i⟩ _ ?_;simp only[bK,qF,qQ,upV,reduceIte,Qq,L]
  case s6=>
   rintro d u b ⟨s,y,z,f⟩ B K c;simp only[bK,qF,qQ];go_simp;refine c.out (upV u 6 (.pointer (some ⟨b.heap.size,0,none⟩))) _ (f.alloc _) ⟨λh=>s h,λh=>y h,λ_=>⟨b.heap.size,rfl,Qp _ _ _,f.2.1.lt⟩,f.alloc _⟩ _ ?_;simp only[bK,qF,qQ,upV,reduceIte,Qq]
 case V=>
  rintro n' d u b ⟨s,y,z,f⟩ B;have L:=s (B 3 rfl);have ax:=y (B 5 rfl);obtain⟨q,e6,C,a3⟩:=z (B 6 rfl);simp only[bK,qF,qQ,L,ax,e6];clear s y z L ax e6;change bP _ _ _ _ _ _ (n'+1) _ _ _;refine eF 7 λK c=>?_
  have O:=de (l:=T) C (by rw[ad];rfl);go_simp;refine c.out _ _ ?_;clear c K O;refine aC ?_;have r1:=f.1.other (b':=q) oo (Ws T);have k:=f.2.1.other (b':=q) oo (Ws T);have r3:=C.row (Ws T);have j:=Qa (g:=q) f.2.2.2 oo (Ws T);clear f C;generalize b.setRow q (Ws T)=w4 at r1 k r3 j|-;by_cases az:n%2=1
  .have i5:(n:Int)%2=1:=oo
   have hr:m=VV:=by rw[show m=_ from r.out,if_pos az]
   subst hr;clear r HO W X;go_wp2_with fail;refine bu (S:=SqS q w.heap.size T a) (ls:=[4]) kr ?_;have E:SqS q w.heap.size T a w4.drew:=⟨r3,r1⟩;replace k:Blk w4.drew (w.heap.size+1) (Ws [0,0,0,0,0]) 69:=k;replace j:=j.drew;clear r1 r3;generalize World.drew w4=w5 at E k j|-;refine ac 0 23 (v:=Qj (Ws T)) E ?_ ?_
   .exact λb x=>xl t69 x.1 Q rfl rfl
   refine ac 2 25 (v:=Qj (Ws a)) E ?_ ?_
   .exact λb x=>xl t69 x.2 sa rfl rfl
   simp only[qQ];refine aF 1 λK c=>?_
   go_simp;go_wp2_with (go_at_call 163;refine gv ao λx0 i=>?_);have Z:SqS q w.heap.size T a x0:=⟨E.1.keep i,E.2.keep i⟩;replace k:=k.keep i;replace j:=j.trans (i.mono j.size);refine c.out _ _ Z ?_;clear c K i E;refine aF 3 λK c=>?_
   go_simp;go_wp2_with (go_at_call 111;refine gv ap λx1 P=>?_);have ab:SqS q w.heap.size T a x1:=⟨Z.1.keep P,Z.2.keep P⟩;replace k:=k.keep P;replace j:=j.trans (P.mono j.size);refine c.out _ _ ab ?_;clear c K P Z;refine eF 4 λK c=>?_
   have O:=de (l:=m) ab.1 (by rw[ah,Q]);go_simp;refine c.out _ _ ?_;clear c K O;refine aC ?_;have z1:=ab.1.row (Ws m);have z2:=k.other (b':=q) oo (Ws m);have zb:=Qa (g:=q) j oo (Ws m);clear ab k j;generalize x1.setRow q (Ws m)=x2 at z1 z2 zb|-;have o:=z1;have M:=z2;unfold Blk at o M;have e0:(Ws [0,0,0,0,0]).size=5:=by rw[dA];rfl
   go_wp2_with (first
    |(refine ld t69 rfl rfl q rfl o sV ?_)
    |(refine st t69 rfl rfl (w.heap.size+1) rfl rfl M sV e0 (aZ _) ?_))
   refine Qd (v:=Qj (Ws m)) ?_ rfl ⟨rfl,Qa zb oo _⟩;exact rr t69 rfl rfl (z2.row _) sV
  .have i5:¬(n:Int)%2=1:=oo
   have hr:m=T:=by rw[show m=_ from r.out,if_neg az]
   subst hr;clear r HO W X;have o:=r3;have M:=k;unfold Blk at o M;have e0:(Ws [0,0,0,0,0]).size=5:=by rw[dA];rfl
   go_wp2_with (first
    |(refine ld t69 rfl rfl q rfl o Q ?_)
    |(refine st t69 rfl rfl (w.heap.size+1) rfl rfl M Q e0 (aZ _) ?_))
   refine Qd (v:=Qj (Ws m)) ?_ rfl ⟨rfl,Qa j oo _⟩;exact rr t69 rfl rfl (k.row _) Q
end Go.Proofs.YtclpbaokadfhhaaGreatDoor
