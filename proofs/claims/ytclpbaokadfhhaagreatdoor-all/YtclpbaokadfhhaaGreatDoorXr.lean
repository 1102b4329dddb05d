import Derived.Test.YtclpbaokadfhhaaGreatDoorZb
set_option maxRecDepth 100000
set_option maxHeartbeats 4000000
open Go.IntKind renaming u64->Qa,wrap_i64->Qc,i64->Qd
open Go.Value renaming int->Qe,string->Qf,agg->Qg
open Go.Obj renaming cells->Qi
open Go.BinOp renaming xor->Qj,and->Qk,or->Qm
open Go.Proofs.YtclpbaokadfhhaaGreatDoor renaming Sha_first->Qn,Sha_St->Qo
open Go renaming World->Qx,below_setRow->Qy,wpList_load_row->Qz,heap_alloc2_new->QA,Value->QB,Calls->QC,below_drewN->QD
open Go.RowKit renaming intOf->QE,Below->QF
open List renaming getElem?_eq_getElem->QG,getD->QH
open Go.Proofs.Tryz renaming prog->QI,underlying101->QJ
namespace Go.Proofs.YtclpbaokadfhhaaGreatDoor
open Go.RowKit
open Blk renaming new->Qp,alloc->Qq,keep->Qt
theorem Xm(x:Qv)(n:Nat):x>>>n|||x<<<(64-n)=eZ x n:=BitVec.or_comm _ _
theorem vf(x:Qv)(m:Int)(w:Qx)(h0:0<m)(b:m<64):
  QC QI 142 #[Qe Qa (U x),Qe Qd m] w λe w'=>e=.returned (Qe Qa (U (eZ x m.toNat)))/\ ∃nq,w'=w.drewN nq:=by
 obtain⟨n,rfl⟩:=Int.eq_ofNat_of_zero_le (by omega:0<=m);rw[Int.toNat_natCast];have a:Hid (bits Qm Qa (U x/2^n) (Qa.wrap (U x*2^(64-n)))=U (eZ x n)):=by
  show _=_
  rw[Aa,vq,nT,Xm]
 have c:(0:Int)<=64-(n:Int):=oo
 have d:¬(64-(n:Int)<0):=oo
 go_enter Tryz.func142,Tryz.ntmps142;go_wp2;go_quiet (fail)
 go_wp2;go_ret;exact⟨rO a.out,_,rfl⟩
theorem Vf(s:Qb)(w:Qx)(m:s.size=8):
  QC QI 141 #[Qf s] w λe w'=>e=.returned (Qe Qa (U (jh (λi=>s.data.toList.getD i 0) 8)))/\w'=w:=by
 generalize b:(λi=>s.data.toList.getD i 0)=f;have d:=Qh b;clear b;go_enter Tryz.func141,Tryz.ntmps141;go_wp2;go_loop [3,4] (λx i=> ∃k:Nat,k<=8/\i=Qe Qd k/\x=Qe Qa (U (jh f k))) (λ_ i=>8-(QE i).toNat)
 case atStart=>exact⟨0,Nat.zero_le _,rfl,rfl⟩
 case round=>
  obtain⟨k,j,rfl,rfl⟩:=hrel;by_cases l:k<8
  .have h:k<s.size:=oo
   have n:(k:Int)<8:=oo
   have a:s[k]=f k:=by
    rw[<-show (λi=>s.data.toList.getD i 0)=f from d.out];have h2:k<s.data.toList.length:=by simpa using h
    simp[QH,QG h2];rfl
   have g:=Qh (Sn (jh f k) (f k));have c:=Qh a;clear a;go_wp2;go_round
   case rel=>exact⟨k+1,oo,gn,cH (by rw[show s[k]=f k from c.out];exact g.out)⟩
   case measure=>simp[QE];omega
  .have:k=8:=oo
   subst this;go_wp2;go_ret;exact⟨rfl,rfl⟩
def fE(x:BitVec 64):Nat->List UInt8
 |0=>[]
 |k+1=>fE x k++ [qZ x k]
theorem mP(x:Qv)(k:Nat):(fE x k).length=k:=by
 induction k with
 |zero=>rfl
 |succ k a=>simp[fE,a]
theorem Tx(c:UInt8):(#[Qe .u8 (c.toNat:Int)]:Array QB)=Bs [c]:=rfl
theorem PM(x:Qv)(w:Qx):
  Rw 76 #[Qe Qa (U x)] w (Qf ⟨(fE x 8).toArray⟩):=by
 go_enter Tryz.func76,Tryz.ntmps76;go_wp2;go_loopw [3,4] (λs i wr=> ∃k:Nat,k<=8/\i=Qe Qd (56-8*(k:Int))/\s=Qf ⟨(fE x k).toArray⟩/\QF w.heap.size w wr) (λ_ i _=>(QE i+8).toNat)
 case atStart=>exact⟨0,oo,rfl,rfl,Below.refl _ _⟩
 case round=>
  obtain⟨k,m,rfl,rfl,a⟩:=hrel;by_cases n:k<8
  .have o:(0:Int)<=56-8*(k:Int):=oo
   have p:¬(56-8*(k:Int)<0):=oo
   have l:(56-8*(k:Int)).toNat=56-8*k:=oo
   have d:=LD x k;have f:=gc (cap:=1) (Qp wr (Bs [qZ x k]) 5) 1 rfl;rw[<-Tx,<-d]at f;have h:=mP x k;have b:Hid (fE x (k+1)=fE x k++ [qZ x k]):=rfl;generalize e:fE x k=L at h b;have j:=Qh e;clear e d;generalize qZ x k=c at f b;go_wp2;go_roundw
   case rel=>
    refine⟨k+1,oo,cH oo,?_,a.alloc a.size _⟩;rw[show fE x (k+1)=L++ [c]from b.out];exact congrArg Qf (ByteArray.mk_append_mk L [c])
   case measure=>simp[QE];omega
  .have g:k=8:=oo
   subst g;go_wp2;go_ret;exact⟨rfl,a⟩
def Sha_rootsW:List (BitVec 64):=Sha_roots.map (BitVec.ofNat 64)
theorem Mz(i:Nat)(h:i<80):(Ws Sha_rootsW)[i]? =some (Qe Qa (U (ai i))):=by
 have h2:i<Sha_rootsW.length:=by unfold Sha_rootsW;rw[List.length_map];exact h
 rw[cQ _ _ h2];congr 3
 have a:i<Sha_roots.length:=h;simp[Sha_rootsW,ai,QH,QG a]
theorem Vi(w:Qx):
  QC QI 77 #[] w λe w'=>e=.returned (.slice (some ⟨w.heap.size,0,none⟩) 80 80)/\w'=w.alloc (Qi (Ws Sha_rootsW) 67):=by
 go_enter Tryz.func77,Tryz.ntmps77;go_wp2;go_ret;refine⟨rfl,?_⟩;kernel_rfl
def kT(K:Nat->BitVec 64)(s:Qo)(f:Nat->UInt8):Qo:=s.plus (cq K (cZ λt=>jh (λi=>f (8*t+i)) 8) s 80)
def kS(K:Nat->BitVec 64)(l:List UInt8):Nat->Qo
 |0=>Qn
 |j+1=>kT K (kS K l j) (λi=>l.getD (128*j+i) 0)
def aj(K:Nat->BitVec 64)(l:List UInt8):List UInt8:=iV (kS K (kA l) ((kA l).length/128)) 8
theorem V5(s:Qo):s.list.length=8:=rfl
theorem Ij{w:Qx}{g t:Nat}{s:Qo}(h:Blk w g (Ws s.list) t):w.cell? ⟨g,0,none⟩=some (Qe Qa (U s.a))/\w.cell? ⟨g,1,none⟩=some (Qe Qa (U s.b))/\w.cell? ⟨g,2,none⟩=some (Qe Qa (U s.c))/\w.cell? ⟨g,3,none⟩=some (Qe Qa (U s.d))/\
  w.cell? ⟨g,4,none⟩=some (Qe Qa (U s.e))/\w.cell? ⟨g,5,none⟩=some (Qe Qa (U s.f))/\w.cell? ⟨g,6,none⟩=some (Qe Qa (U s.g))/\w.cell? ⟨g,7,none⟩=some (Qe Qa (U s.h)):=
 ⟨h.cell 0,h.cell 1,h.cell 2,h.cell 3,h.cell 4,h.cell 5,h.cell 6,h.cell 7⟩
theorem Vb(K:Nat->BitVec 64)(f:Nat->UInt8)(s:Qo)(w:Qx)(a:Tab K w):
  QC QI 170 #[Qg #[Qe Qa (U s.a),Qe Qa (U s.b),Qe Qa (U s.c),Qe Qa (U s.d),Qe Qa (U s.e),Qe Qa (U s.f),Qe Qa (U s.g),Qe Qa (U s.h)],Qg (Ws (cU (cZ λt=>jh (λi=>f (8*t+i)) 8) 80))] w λe w'=>
   e=.returned (Qg (Ws (kT K s f).list))/\QF w.heap.size w w':=Xg K _ s w a
theorem Hw(K:Nat->BitVec 64)(s:Qb)(w:Qx)(hs:s.size<=140737488351232)(C:Tab K w):
  Rw 113 #[Qf s] w (Qf ⟨(aj K s.data.toList).toArray⟩):=by
 have h:=de (l:=Qn.list) (QA w (Qi (Ws Qn.list) 101) (Qi #[Qe Qa 0,Qe Qa 0,Qe Qa 0,Qe Qa 0,Qe Qa 0,Qe Qa 0,Qe Qa 0,Qe Qa 0] 101)) rfl;have M:∀s:Qo,(Ws s.list).size=8:=λs=>by rw[dA];rfl
 have r:=World.setRow_alloc_new (w.alloc (Qi (Ws Qn.list) 101)) #[Qe Qa 0,Qe Qa 0,Qe Qa 0,Qe Qa 0,Qe Qa 0,Qe Qa 0,Qe Qa 0,Qe Qa 0] (Ws Qn.list) 101;rw[show (w.alloc (Qi (Ws Qn.list) 101)).heap.size=w.heap.size+1 by simp]at r;rw[r]at h;clear r;have b:Blk (((w.alloc (Qi (Ws Qn.list) 101)).alloc (Qi (Ws Qn.list) 101)).alloc (Qi (Bs (kA s.data.toList)) 5)) (w.heap.size+1) (Ws Qn.list) 101:=Qq (QA w _ _) _;have d:Blk (((w.alloc (Qi (Ws Qn.list) 101)).alloc (Qi (Ws Qn.list) 101)).alloc (Qi (Bs (kA s.data.toList)) 5)) (w.heap.size+1+1) (Bs (kA s.data.toList)) 5:=by
  have:=Qp ((w.alloc (Qi (Ws Qn.list) 101)).alloc (Qi (Ws Qn.list) 101)) (Bs (kA s.data.toList)) 5;simpa using this
 have a:QF w.heap.size w (((w.alloc (Qi (Ws Qn.list) 101)).alloc (Qi (Ws Qn.list) 101)).alloc (Qi (Bs (kA s.data.toList)) 5)):=((bR.alloc nR _).alloc ss _).alloc (by simp;omega) _;have q:(kA s.data.toList).length=cg s.size:=by rw[Bu];simp
 have y:=oI s.size;have k:Hid (aj K s.data.toList=iV (kS K (kA s.data.toList) (cg s.size/128)) 8):=by rw[<-q];rfl
 generalize aj K s.data.toList=D at k|-;go_enter Tryz.func113,Tryz.ntmps113;go_wp2_with (first|(go_at_call 168;refine(Hu _).mono ?_;rintro e w' ⟨rfl,rfl⟩)|(go_at_call 169;refine(ZG _ _ oo).mono ?_;rintro e w' ⟨rfl,rfl⟩));clear h;generalize ((w.alloc (Qi (Ws Qn.list) 101)).alloc (Qi (Ws Qn.list) 101)).alloc (Qi (Bs (kA s.data.toList)) 5)=w1 at b d a|-;generalize cg s.size=N at q y k|-;generalize kA s.data.toList=P at q d k;obtain⟨ad,ag,ah⟩:=y;go_loopw [5] (λi wr=> ∃j:Nat,128*j<=N/\i=Qe Qd (128*j:Nat)/\Blk wr (w.heap.size+1) (Ws (kS K P j).list) 101/\Blk wr (w.heap.size+1+1) (Bs P) 5/\QF w.heap.size w wr) (λi _=>N-(QE i).toNat)
 case atStart=>exact⟨0,oo,rfl,b,d,a⟩
 case round=>
  clear b d a;obtain⟨j,hj,rfl,b,d,a⟩:=hrel;by_cases I:128*j<N
  .have H:128*j+128<=N:=oo
   obtain⟨f,p⟩:∃f:Nat->UInt8,f=λi=>P.getD (128*j+i) 0:=⟨_,rfl⟩
   have n:Hid (kS K P (j+1)=kT K (kS K P j) f):=by rw[p];rfl
   have v:Hid (∀i,i<128->(Bs P)[128*j+i]? =some (Qe .u8 ((f i).toNat:Int))):=λi x=>by
    rw[pY _ _ oo,p]
   clear p;generalize h:kS K P j=st at b n;have Q:=Qh h;clear h;generalize u:128*j=c at I H n v;have m:=Qh u;clear u;obtain⟨X,Z,c2,c3,c4,c5,c6,c7⟩:=Ij b;have R:(c:Int)<N:=oo
   have S:(0:Int)<=(c:Int):=oo
   have T:(c:Int)+128<=N:=oo
   have W:Qd.wrap ((c:Int)+128)=(c:Int)+128:=by rw[Qc];omega
   go_wp2_with fail;have E:=C.below a;go_region_with (first
    |(go_at_call 171;refine(Tg (w.heap.size+1+1) c _ f _ ?_ ?_ ?_).mono ?_;omega;omega;(intro i x;exact(d.cell (c+i)).trans (v.out i x));rintro e O ⟨rfl,g⟩;have A:=Qt (w:=wr.drew) b g;have J:=Qt (w:=wr.drew) d g;have G:=Tab.below (w:=wr.drew) E g;obtain⟨d0,d1,d2,d3,d4,d5,d6,d7⟩:=Ij A)
    |(go_at_call 170;refine(Vb K f st _ ?_).mono ?_;exact G;rintro e w3 ⟨rfl,o⟩;have B:=Qt A o;have L:=Qt J o;have h:=de (l:=(kT K st f).list) B rfl))
   all_goals
    go_wp2;go_roundw
    case rel=>
     refine⟨j+1,by have:=m.out;omega,cH (by have:=m.out;omega),?_,?_,?_⟩
     .rw[show kS K P (j+1)=kT K st f from n.out];exact B.row _
     .exact L.other oo _
     .refine Qy ?_ oo _;have z:=Below.trans (Below.drew a) (Below.mono g (by have:=a.size;exact this));exact z.trans (o.mono (by have:=z.size;exact this))
    case measure=>simp[QE];have:=m.out;omega
  .have ab:128*j=N:=oo
   have F:N/128=j:=oo
   have t:=b;unfold Blk at t;go_wp2_with (first
    |(refine Qz rfl 101 _ rfl (w.heap.size+1) rfl 101 _ (0,0) _ t QJ rfl (by rw[M];exact Tryz.info8) ?_)
    |(go_at_call 172;refine mo (Xc _ _) λO g=>?_))
   go_ret;refine⟨?_,a.trans (g.mono a.size)⟩;rw[show D=_ from k.out,F];rfl
theorem Nc(f g:Nat->UInt8)(k:Nat)(h:∀i,i<k->f i=g i):jh f k=jh g k:=by
 induction k with
 |zero=>rfl
 |succ k a=>rw[jh,jh,a (λi b=>h i oo),h k oo]
theorem Ea(s:Qb)(a b i:Nat)(h:a+i<b)(_:b<=s.size):(s.extract a b).data.toList.getD i 0=s.data.toList.getD (a+i) 0:=by
 have h2:i<b-a:=oo
 simp[QH,List.getElem?_drop,List.getElem?_take,ByteArray.data_extract];rw[if_pos oo]
theorem Xi(f:Nat->BitVec 64)(k:Nat)(h:16<=k):Qa.wrap (Qa.wrap (Qa.wrap (bits Qj Qa (bits Qj Qa (U (eZ (cZ f (k-2)) 19)) (U (eZ (cZ f (k-2)) 61))) (U (cZ f (k-2))/64)+
  U (cZ f (k-7)))+bits Qj Qa (bits Qj Qa (U (eZ (cZ f (k-15)) 1)) (U (eZ (cZ f (k-15)) 8))) (U (cZ f (k-15))/128))+U (cZ f (k-16)))=U (cZ f k):=by
 rw[nJ,nJ,Ir _ 64 6 dd,Ir _ 128 7 dd,nJ,nJ,eW,eW,eW,yD f k h];rfl
theorem acs(e f g:Qv):bits Qm Qa (bits Qk Qa (U e) (U f)) (bits Qk Qa (bits Qj Qa (U e) 18446744073709551615) (U g))=U (zp e f g):=by
 rw[show (18446744073709551615:Int)=U (BitVec.allOnes 64) by rw[<-Zi];decide,nJ,nK,nK,nT,BitVec.xor_comm,Zh];rfl
theorem abw(a b c:Qv):bits Qm Qa (bits Qm Qa (bits Qk Qa (U a) (U b)) (bits Qk Qa (U a) (U c))) (bits Qk Qa (U b) (U c))=U (Bw a b c):=by
 rw[nK,nK,nT,nK,nT];rfl
theorem St(k x:Qv)(t:Qo):(#[Qe Qa (Qa.wrap (Qa.wrap (Qa.wrap (Qa.wrap (Qa.wrap (U t.h+bits Qj Qa (bits Qj Qa (U (eZ t.e 14)) (U (eZ t.e 18))) (U (eZ t.e 41)))+U (zp t.e t.f t.g))+U k)+U x)+
   Qa.wrap (bits Qj Qa (bits Qj Qa (U (eZ t.a 28)) (U (eZ t.a 34))) (U (eZ t.a 39))+U (Bw t.a t.b t.c)))),
  Qe Qa (U t.a),Qe Qa (U t.b),Qe Qa (U t.c),
  Qe Qa (Qa.wrap (U t.d+Qa.wrap (Qa.wrap (Qa.wrap (Qa.wrap (U t.h+bits Qj Qa (bits Qj Qa (U (eZ t.e 14)) (U (eZ t.e 18))) (U (eZ t.e 41)))+U (zp t.e t.f t.g))+U k)+U x))),
  Qe Qa (U t.e),Qe Qa (U t.f),Qe Qa (U t.g)]:Array QB)=Ws (Fz k x t).list:=by
 rw[nJ,nJ,nJ,nJ,eW,eW,eW,eW,eW,eW,eW];rfl
theorem Vq(a:Qo)(s:Qb)(y:Nat)(w:Qx)(hs:s.size=128)(h:∀i,i<80->w.cell? ⟨y,i,none⟩=some (Qe Qa (U (ai i)))):
  QC QI 78 #[Qg (Ws a.list),Qf s,.slice (some ⟨y,0,none⟩) 80 80] w λe w'=>
   e=.returned (Qg (Ws (kT ai a (λi=>s.data.toList.getD i 0)).list))/\QF w.heap.size w w':=by
 have ao:=block_lt_of_cell (h 0 oo);have HK:=Qh h;clear h;generalize E:(cZ λt=>jh (λi=>s.data.toList.getD (8*t+i) 0) 8)=W;have L:=Qh E;have z:Hid (kT ai a (λi=>s.data.toList.getD i 0)=a.plus (cq ai W a 80)):=by rw[<-E];rfl
 clear E;generalize kT ai a (λi=>s.data.toList.getD i 0)=R at z|-;generalize Q:cq ai W a 80=T at z;have HT:=Qh Q;clear Q;have a2:(Ws a.list).size=8:=by rw[dA];rfl
 have hz:=UY;have b:=Qq (Qq (Qp w (Ws a.list) 101) (Qi (Ws [0,0,0,0,0,0,0,0]) 101)) (Qi (Ws nL) 146);have f:=Qq (Qp (w.alloc (Qi (Ws a.list) 101)) (Ws [0,0,0,0,0,0,0,0]) 101) (Qi (Ws nL) 146);have c:=Qp ((w.alloc (Qi (Ws a.list) 101)).alloc (Qi (Ws [0,0,0,0,0,0,0,0]) 101)) (Ws nL) 146;have d:QF w.heap.size w (((w.alloc (Qi (Ws a.list) 101)).alloc (Qi (Ws [0,0,0,0,0,0,0,0]) 101)).alloc (Qi (Ws nL) 146)):=
  ((bR.alloc nR _).alloc ss _).alloc (by simp;omega) _
 rw[show (w.alloc (Qi (Ws a.list) 101)).heap.size=w.heap.size+1 by simp]at f;rw[show ((w.alloc (Qi (Ws a.list) 101)).alloc (Qi (Ws [0,0,0,0,0,0,0,0]) 101)).heap.size=w.heap.size+1+1 by simp]at c;go_enter Tryz.func78,Tryz.ntmps78;go_wp2_with fail;rw[show (#[Qe Qa 0,Qe Qa 0,Qe Qa 0,Qe Qa 0,
   Qe Qa 0,Qe Qa 0,Qe Qa 0,Qe Qa 0]:Array QB)=Ws [0,0,0,0,0,0,0,0]from rfl]
 generalize ((w.alloc (Qi (Ws a.list) 101)).alloc (Qi (Ws [0,0,0,0,0,0,0,0]) 101)).alloc (Qi (Ws nL) 146)=w1 at b f c d|-;go_loopw [8] (λi wr=> ∃k:Nat,k<=80/\i=Qe Qd k/\Blk wr (w.heap.size+1+1) (Ws (cU W k)) 146/\Blk wr w.heap.size (Ws a.list) 101/\Blk wr (w.heap.size+1) (Ws [0,0,0,0,0,0,0,0]) 101/\QF w.heap.size w wr) (λi _=>80-(QE i).toNat)
 case atStart=>exact⟨0,oo,rfl,by rw[Br];exact c,b,f,d⟩
 case round=>
  clear b f c d;obtain⟨k,h,rfl,c,b,f,d⟩:=hrel;by_cases q:k<80
  .have i0:(k:Int)<80:=oo
   have j:=c.cell k;rw[cQ _ _ (by rw[cu];omega)]at j;have g2:=c.frozen k;by_cases ag:k<16
   .have ay:(k:Int)<16:=oo
    have ah:(s.extract (8*k) (8*k+8)).size=8:=by simp;omega
    have HV:Hid (jh (λi=>(s.extract (8*k) (8*k+8)).data.toList.getD i 0) 8=W k):=by
     show _=_
     rw[<-show (cZ λt=>jh (λi=>s.data.toList.getD (8*t+i) 0) 8)=W from L.out,yC _ _ ag];exact Nc _ _ _ (λi hi=>Ea s _ _ i oo oo)
    go_wp2_with fail;refine(Vf _ _ ah).mono ?_;rintro e w' ⟨rfl,rfl⟩;rw[show jh (λi=>(s.extract (8*k) (8*k+8)).data.toList.getD i 0) 8=W k from HV.out];go_wp2;have R:=xj (w:=w) (B:=w.heap.size+1+1) (k:=k) (x:=U (W k)) oo c oo d rfl;go_roundw
    case rel=>exact⟨k+1,oo,gn,R.1,R.2.1 _ _ _ oo b,R.2.1 _ _ _ oo f,R.2.2⟩
    case measure=>simp[QE];omega
   .have ay:¬(k:Int)<16:=oo
    have M:=c.cell (k-2);rw[cQ _ _ (by rw[cu];omega),jX _ _ _ oo h]at M;have N:=c.cell (k-7);rw[cQ _ _ (by rw[cu];omega),jX _ _ _ oo h]at N;have ab:=c.cell (k-15);rw[cQ _ _ (by rw[cu];omega),jX _ _ _ oo h]at ab;have ad:=c.cell (k-16);rw[cQ _ _ (by rw[cu];omega),jX _ _ _ oo h]at ad;have a5:((k:Int)-2).toNat=k-2:=oo
    have a6:((k:Int)-7).toNat=k-7:=oo
    have a3:((k:Int)-15).toNat=k-15:=oo
    have a4:((k:Int)-16).toNat=k-16:=oo
    have j2:Qd.wrap ((k:Int)-2)=(k:Int)-2:=by rw[Qc];omega
    have j7:Qd.wrap ((k:Int)-7)=(k:Int)-7:=by rw[Qc];omega
    have a7:Qd.wrap ((k:Int)-15)=(k:Int)-15:=by rw[Qc];omega
    have a8:Qd.wrap ((k:Int)-16)=(k:Int)-16:=by rw[Qc];omega
    have l2:(2:Int)<=(k:Int)/\(k:Int)-2<80:=oo
    have l7:(7:Int)<=(k:Int)/\(k:Int)-7<80:=oo
    have az:(15:Int)<=(k:Int)/\(k:Int)-15<80:=oo
    have a0:(16:Int)<=(k:Int)/\(k:Int)-16<80:=oo
    obtain⟨bh,bi⟩:=l2;obtain⟨bk,bq⟩:=l7;obtain⟨a9,ba⟩:=az;obtain⟨bb,bd⟩:=a0;have q7:∀(o:Qx) (v:QB),(o.setCell ⟨w.heap.size+1+1,k,none⟩ v).cell? ⟨w.heap.size+1+1,k-7,none⟩=o.cell? ⟨w.heap.size+1+1,k-7,none⟩:=λo v=>mi _ _ _ _ _ oo
    have bs:∀(o:Qx) (v:QB),(o.setCell ⟨w.heap.size+1+1,k,none⟩ v).cell? ⟨w.heap.size+1+1,k-16,none⟩=o.cell? ⟨w.heap.size+1+1,k-16,none⟩:=λo v=>mi _ _ _ _ _ oo
    go_wp2_with (go_at_call 142;refine(vf _ _ _ dd dd).mono ?_;rintro e w' ⟨rfl,nq,rfl⟩);go_region_held3 (λw'=>w'.cell? ⟨w.heap.size+1+1,k-7,none⟩=some (Qe Qa (U (W (k-7))))/\w'.cell? ⟨w.heap.size+1+1,k-16,none⟩=some (Qe Qa (U (W (k-16))))) (go_keep) (fail)
    go_wp2;have K:=Xi (λt=>jh (λi=>s.data.toList.getD (8*t+i) 0) 8) k oo;rw[show (cZ λt=>jh (λi=>s.data.toList.getD (8*t+i) 0) 8)=W from L.out]at K;have R:=λn=>xj (w:=w) (wr:=wr.drewN n) (B:=w.heap.size+1+1) (k:=k) (W:=W) oo (c.drewN n) oo (QD d n) K
    clear K;go_roundw
    case rel=>exact⟨k+1,oo,gn,(R _).1,(R _).2.1 _ _ _ oo (b.drewN _),(R _).2.1 _ _ _ oo (f.drewN _),(R _).2.2⟩
    case measure=>simp[QE];omega
  .have J:k=80:=oo
   subst J;rw[show ((80:Nat):Int)=80 from rfl];have j:=b;unfold Blk at j;have ap:∀s:Qo,(Ws s.list).size=8:=λs=>by rw[dA];rfl
   have X:=de (l:=a.list) (Qp wr #[Qe Qa 0,Qe Qa 0,Qe Qa 0,Qe Qa 0,Qe Qa 0,Qe Qa 0,Qe Qa 0,Qe Qa 0] 101) rfl;rw[World.setRow_alloc_new]at X;have g:=Qp wr (Ws a.list) 101;have H:=c.alloc (Qi (Ws a.list) 101);have F:=b.alloc (Qi (Ws a.list) 101);have G:=f.alloc (Qi (Ws a.list) 101);have C:QF w.heap.size w (wr.alloc (Qi (Ws a.list) 101)):=d.alloc d.size _;have hV:=c.lt;clear b f c;go_wp2_with (refine Qz rfl 101 _ rfl w.heap.size rfl 101 _ (0,0) _ j QJ rfl (by rw[ap];exact Tryz.info8) ?_);generalize wr.alloc (Qi (Ws a.list) 101)=w2 at g F G H C|-;generalize wr.heap.size=A at g hV|-;clear X j d;go_loopw [14] (λi wr=> ∃k:Nat,k<=80/\i=Qe Qd k/\Blk wr A (Ws (cq ai W a k).list) 101/\Blk wr (w.heap.size+1+1) (Ws (cU W 80)) 146/\Blk wr w.heap.size (Ws a.list) 101/\Blk wr (w.heap.size+1) (Ws [0,0,0,0,0,0,0,0]) 101/\QF w.heap.size w wr) (λi _=>80-(QE i).toNat)
   case atStart=>exact⟨0,oo,rfl,g,H,F,G,C⟩
   case round=>
    clear g F G H C;obtain⟨k,h,rfl,g,c,b,f,d⟩:=hrel;by_cases q:k<80
    .have i0:(k:Int)<80:=oo
     have a1:wr.cell? ⟨y,k,none⟩=some (Qe Qa (U (ai k))):=by rw[d.cell (p:=⟨y,k,none⟩) ao];exact HK.out k q
     have ax:=c.cell k;rw[cQ _ _ (by rw[cu];omega),jX _ _ _ oo oo]at ax;have r:Hid (cq ai W a (k+1)=Fz (ai k) (W k) (cq ai W a k)):=rfl;generalize cq ai W a k=m at g r;obtain⟨c0,c1,M,c3,c4,c5,c6,N⟩:=Ij g;have P:=g;unfold Blk at P;go_wp2_with fail;rw[acs m.e m.f m.g,abw m.a m.b m.c];go_quiet ((go_at_call 142;exact Calls.quiet_of (vf _ _ _ dd dd)))
     go_wp2_with fail;refine(vf _ _ _ dd dd).mono ?_;rintro e w' ⟨rfl,nq,rfl⟩;go_wp2_with fail;refine(vf _ _ _ dd dd).mono ?_;rintro e w' ⟨rfl,nq,rfl⟩;go_wp2_with fail;refine(vf _ _ _ dd dd).mono ?_;rintro e w' ⟨rfl,nq,rfl⟩;go_wp2_with (refine wpList_store_row rfl 101 _ _ rfl A _ rfl rfl 101 _ P ?Y ?h2 ?V ?_);case Y=>exact Tryz.info8
     case h2=>rw[dA];rfl
     case V=>rw[St];exact aZ _
     rw[St];go_roundw
     case rel=>
      refine⟨k+1,oo,gn,?_,(c.drewN _).other oo _,(b.drewN _).other oo _,(f.drewN _).other oo _,Qy (QD d _) oo _⟩;rw[show cq ai W a (k+1)=Fz (ai k) (W k) m from r.out];exact(g.drewN _).row _
     case measure=>simp[QE];omega
    .have J:k=80:=oo
     subst J;rw[show ((80:Nat):Int)=80 from rfl];rw[show cq ai W a 80=T from HT.out]at g;clear c;go_wp2;go_loopw [21] (λi wr=> ∃k:Nat,k<=8/\i=Qe Qd k/\Blk wr w.heap.size (Ws (kt a T k)) 101/\Blk wr A (Ws T.list) 101/\Blk wr (w.heap.size+1) (Ws [0,0,0,0,0,0,0,0]) 101/\QF w.heap.size w wr) (λi _=>8-(QE i).toNat)
     case atStart=>exact⟨0,oo,rfl,b,g,f,d⟩
     case round=>
      clear b f g d;obtain⟨k,h,rfl,b,g,f,d⟩:=hrel;by_cases q:k<8
      .have I:=Ej a T k q;have S:=b.cell k;rw[cQ _ _ I.2,I.1]at S;have Z:=g.cell k;rw[cQ _ _ (by rw[V5];exact q)]at Z;have hf:=b.frozen k;clear I;have u:=Dm a T k q;generalize a.list.getD k 0=x1 at S u;generalize T.list.getD k 0=x2 at Z u;have r:=Qh u;clear u;have i0:(k:Int)<8:=oo
       go_wp2_with fail;go_region
       all_goals
        go_wp2;go_roundw
        case rel=>
         refine⟨k+1,oo,gn,?_,?_,?_,(d.setCell nR _).drew⟩
         .rw[b.set,eW,eC,show _=_ from r.out];exact b.row _
         .rw[b.set];exact g.other oo _
         .rw[b.set];exact f.other oo _
        case measure=>simp[QE];omega
      .have an:k=8:=oo
       subst an;have O:=b;have j:=f;unfold Blk at O j;have D:(Ws (kt a T 8)).size=8:=by rw[dA];rfl
       go_wp2_with (first
        |(refine ld GQ rfl rfl w.heap.size rfl O D ?_)
        |(refine st GQ rfl rfl (w.heap.size+1) rfl rfl j D rfl (aZ _) ?_))
       refine bodyPost_ret (v:=Qg (Ws (kt a T 8))) ?_ rfl ⟨by rw[show R=_ from z.out];rfl,Qy d oo _⟩;exact rr GQ rfl rfl (f.row _) D
end Go.Proofs.YtclpbaokadfhhaaGreatDoor
