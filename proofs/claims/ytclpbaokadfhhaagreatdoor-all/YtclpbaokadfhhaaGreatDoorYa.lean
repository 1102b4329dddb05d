import Derived.Test.YtclpbaokadfhhaaGreatDoorXj
import Derived.Shelf.Spec.BitsCarry
set_option maxRecDepth 100000
set_option maxHeartbeats 4000000
open Go.Obj renaming cells->Qa
open Go.IntKind renaming u64->Qc,i64->Qd,wrap_i64->Qe,u8->Qf,wrap_u8->Qg,wrap_u64->Qi
open Go renaming below_setRow->Qj,bodyPost_ret->Qk,World->Qm,heap_alloc2_old->Qn,heap_alloc2_new->Qo
open Go.Value renaming agg->Qp,int->Qq,string->Qt
open BitVec renaming ofNat->Qz,toNat_ofNat->QA,toNat_sub->QB,toNat_and->QC
open Go.RowKit renaming intOf->QD,Below->QE
open Nat renaming lt_of_le_of_lt->QF,mod_eq_of_lt->QG,div_le_self->QH
open Go.Proofs.Tryz renaming prog->QI
open Int renaming tmod_eq_emod_of_nonneg->QJ
namespace Go.Proofs.YtclpbaokadfhhaaGreatDoor
open Go.RowKit
open Blk renaming new->Qx,alloc->Qy
theorem Tryz.infoS4:(QI.info? 71).map (·.size)=some 4:=kr
theorem t71:Ty 71 4:=⟨_,Tryz.underlying71,rfl,Tryz.infoS4⟩
theorem Tryz.infoM4:(QI.info? 70).map (·.size)=some 4:=kr
theorem SZ4:(#[Qq Qc 0,Qq Qc 0,Qq Qc 0,Qq Qc 0]:Array Value)=Ws [0,0,0,0]:=rfl
theorem aas(x y b:Qv)(h:b.toNat<=1)(w:Qm):
  (callFunc 227 #[Qq Qc (U x),Qq Qc (U y),Qq Qc (U b)]).run QI w=.ok (.value (.tuple #[Qq Qc (U (x-y-b)),Qq Qc (U (ni x y b))])) w:=by
 have e:=run_sub64 (P:=QI) x.toNat y.toNat b.toNat h w;rw[run_callFunc_extern Tryz.func227 kr kr kr (e:=sub64Entry) kr];rw[show U x=(x.toNat:Int)from rfl,show U y=(y.toNat:Int)from rfl,show U b=(b.toNat:Int)from rfl,e];have d:=x.isLt;have f:=y.isLt;simp only[Result.andThen];have a:(((x.toNat+18446744073709551616-y.toNat-b.toNat)%18446744073709551616:Nat):Int)=U (x-y-b):=by
  unfold U;rw[QB,QB];omega
 have c:((if x.toNat<y.toNat+b.toNat then 1 else 0:Nat):Int)=U (ni x y b):=by
  unfold ni;split<;>rfl
 rw[a,c]
theorem V6(w:Qm):Rw 226 #[] w (Qp (Ws Sc_md)):=by
 go_enter Tryz.func226,Tryz.ntmps226;go_wp2;refine Qk (v:=Qp (Ws Sc_md)) ?_ rfl ⟨rfl,bR.alloc nR _⟩;exact results_cell_row rfl _ _ w.heap.size 70 (Ws Sc_md) (0,0) _ rfl (Qx w (Ws Sc_md) _) Tryz.underlying70 rfl Tryz.infoM4
theorem abY(x:Qv):bits BinOp.and Qc (U x) 1=U (x&&&1):=nK x 1
theorem Zl(a:Ql)(k:Nat)(w:Qm)(f:a.length=4)(h:k<256):
  Rw 176 #[Qp (Ws a),Qq Qd k] w (Qq Qc (U (kF a k))):=by
 have i:=Wz f;have d:=Qx w (Ws a) 71;have c:=d.cell (k/64);rw[cQ _ _ oo]at c;have b:=Qh (p:=kF a k=(a.getD (k/64) 0>>>(k%64))&&&1) rfl
 generalize kF a k=R at b|-;generalize a.getD (k/64) 0=x at c b;have j:=vq x (k%64);have g:=abY (x>>>(k%64));have e:QE w.heap.size w (w.alloc (Qa (Ws a) 71)):=bR.alloc nR _;clear d;go_enter Tryz.func176,Tryz.ntmps176;go_wp2;go_ret;exact⟨by rw[show R=_ from b.out];rfl,e⟩
theorem Yi(a:Ql)(e:Qv)(w:Qm)(q:a.length=4):
  Rw 184 #[Qp (Ws a),Qq Qc (U e)] w (Qp (Ws (iN a e))):=by
 have E:=Wz q;have s:=UB e;have g:=Qh (p:=iN a e=f6 a (-e) 4) rfl
 generalize -e=m at s g;generalize iN a e=R at g|-;have b:=Qy (Qx w (Ws a) 71) (Qa (Ws [0,0,0,0]) 71);have c:=Qx (w.alloc (Qa (Ws a) 71)) (Ws [0,0,0,0]) 71;have f:QE w.heap.size w ((w.alloc (Qa (Ws a) 71)).alloc (Qa (Ws [0,0,0,0]) 71)):=(bR.alloc nR _).alloc ss _;rw[show (w.alloc (Qa (Ws a) 71)).heap.size=w.heap.size+1 by simp]at c;go_enter Tryz.func184,Tryz.ntmps184;go_wp2_with fail;rw[SZ4];generalize (w.alloc (Qa (Ws a) 71)).alloc (Qa (Ws [0,0,0,0]) 71)=y at b c f|-;go_loopw [6] (λi wr=> ∃k:Nat,k<=4/\i=Qq Qd k/\Blk wr w.heap.size (Ws (f6 a m k)) 71/\Blk wr (w.heap.size+1) (Ws [0,0,0,0]) 71/\QE w.heap.size w wr) (λi _=>4-(QD i).toNat)
 case atStart=>exact⟨0,oo,rfl,b,c,f⟩
 case round=>
  clear b c f y;obtain⟨k,A,rfl,b,c,f⟩:=hrel;by_cases B:k<4
  .have n:=b.cell k;rw[cQ _ _ (by rw[uB];omega)]at n;have z:=b.frozen k;have h:=Qh (p:=f6 a m (k+1)=(f6 a m k).set k ((f6 a m k).getD k 0&&&m)) rfl
   generalize (f6 a m k).getD k 0=x at n h;have D:(k:Int)<4:=oo
   have t:=nK x m;generalize x&&&m=d at t h;go_wp2;go_roundw
   case rel=>
    rw[b.set,eC];exact⟨k+1,oo,gn,by rw[show f6 a m (k+1)=_ from h.out];exact b.row _,c.other oo _,Qj f oo _⟩
   case measure=>simp[QD];omega
  .have u:k=4:=oo
   subst u;have j:(f6 a m 4).length=4:=by rw[uB,q]
   generalize f6 a m 4=S at b j g;have o:=b;unfold Blk at o;have r:=Wz j;have C:=de (l:=S) c (by rw[j];rfl);go_wp2_with (first
    |(refine ld t71 rfl rfl w.heap.size rfl o r ?_))
   refine Qk (v:=Qp (Ws S)) ?_ rfl ⟨by rw[show R=_ from g.out],Qj f oo _⟩;exact rr t71 rfl rfl (c.row _) r
theorem V8(a b c d:Qv)(k:Nat)(e:k<4)(w:Qm):
  (Instr.index 70 (Qp (Ws [a,b,c,d])) (Qq Qd k)).run QI w=.ok (Qq Qc (U ([a,b,c,d].getD k 0))) w:=by
 obtain rfl|rfl|rfl|rfl:k=0\/k=1\/k=2\/k=3:=oo
 all_goals kernel_rfl
theorem Yk(x m:Qv):bits BinOp.andNot Qc (U x) (U m)=U (x&&& ~~~m):=by
 unfold U;rw[u64_andNot_nat _ _ x.isLt m.isLt,QC,BitVec.toNat_not]
theorem V7(a:Ql)(w:Qm)(E:a.length=4):
  Rw 183 #[Qp (Ws a)] w (Qp (Ws (gJ a))):=by
 have Z:=Wz E;have n:=Qh (p:=gJ a=fy a (ck a 4).1 (-(ck a 4).2) 4) rfl
 generalize gJ a=R at n|-;have B:=Qr V6;have b:=Qy (Qy (Qx w (Ws a) 71) (Qa (Ws [0,0,0,0]) 71)) (Qa (Ws [0,0,0,0]) 71);have f:=Qy (Qx (w.alloc (Qa (Ws a) 71)) (Ws [0,0,0,0]) 71) (Qa (Ws [0,0,0,0]) 71);have c:=Qx ((w.alloc (Qa (Ws a) 71)).alloc (Qa (Ws [0,0,0,0]) 71)) (Ws [0,0,0,0]) 71;have g:QE w.heap.size w (((w.alloc (Qa (Ws a) 71)).alloc (Qa (Ws [0,0,0,0]) 71)).alloc (Qa (Ws [0,0,0,0]) 71)):=
  ((bR.alloc nR _).alloc ss _).alloc (by simp;omega) _
 rw[show (w.alloc (Qa (Ws a) 71)).heap.size=w.heap.size+1 by simp]at f;rw[show ((w.alloc (Qa (Ws a) 71)).alloc (Qa (Ws [0,0,0,0]) 71)).heap.size=w.heap.size+1+1 by simp]at c;go_enter Tryz.func183,Tryz.ntmps183;go_wp2_with fail;rw[SZ4];generalize ((w.alloc (Qa (Ws a) 71)).alloc (Qa (Ws [0,0,0,0]) 71)).alloc (Qa (Ws [0,0,0,0]) 71)=w1 at b f c g|-;refine gv B λQ r=>?_
 replace b:=b.keep r;replace f:=f.keep r;replace c:=c.keep r;replace g:=g.trans (r.mono g.size);clear r B;go_wp2_with fail;go_loopw [4,10] (λo i wr=> ∃k:Nat,k<=4/\i=Qq Qd k/\o=Qq Qc (U (ck a k).2)/\Blk wr (w.heap.size+1+1) (Ws (ck a k).1) 71/\Blk wr w.heap.size (Ws a) 71/\Blk wr (w.heap.size+1) (Ws [0,0,0,0]) 71/\QE w.heap.size w wr) (λ_ i _=>4-(QD i).toNat)
 case atStart=>exact⟨0,oo,rfl,rfl,c,b,f,g⟩
 case round=>
  clear b f c g Q;obtain⟨k,O,rfl,rfl,c,b,f,g⟩:=hrel;have F:=r7 a k;by_cases G:k<4
  .have h:=b.cell k;rw[cQ _ _ oo]at h;have W:=c.frozen k;have j:=c.cell k;rw[cQ _ _ oo]at j;have e:=Qh (p:=ck a (k+1)=((ck a k).1.set k (a.getD k 0-Sc_md.getD k 0-(ck a k).2),ni (a.getD k 0) (Sc_md.getD k 0) (ck a k).2)) rfl
   have q:=aas (a.getD k 0) (Sc_md.getD k 0) (ck a k).2 (Do a k);have N:∀I:Qm,(Instr.index 70 (Qp (Ws Sc_md)) (Qq Qd k)).run QI I=.ok (Qq Qc (U (Sc_md.getD k 0))) I:=V8 _ _ _ _ k G
   generalize (ck a k).1=L at c F e j;generalize (ck a k).2=o at e q|-;generalize a.getD k 0=x at h e q;generalize Sc_md.getD k 0=y at e q N;generalize x-y-o=d at e q;generalize ni x y o=m at e q;generalize L.getD k 0=z at j;have P:(k:Int)<4:=oo
   go_wp2;go_roundw
   case rel=>
    rw[c.set,eC];refine⟨k+1,oo,gn,?_,?_,b.other oo _,f.other oo _,Qj g oo _⟩
    .rw[show ck a (k+1)=_ from e.out]
    .rw[show ck a (k+1)=_ from e.out];exact c.row _
   case measure=>simp[QD];omega
  .have t:k=4:=oo
   subst t;rw[show ((4:Nat):Int)=4 from rfl];have C:=UB (ck a 4).2;generalize (ck a 4).1=L at c F n;generalize -(ck a 4).2=m at n C;generalize (ck a 4).2=o at C|-;go_wp2_with fail;go_loopw [28] (λi wr=> ∃k:Nat,k<=4/\i=Qq Qd k/\Blk wr w.heap.size (Ws (fy a L m k)) 71/\Blk wr (w.heap.size+1+1) (Ws L) 71/\Blk wr (w.heap.size+1) (Ws [0,0,0,0]) 71/\QE w.heap.size w wr) (λi _=>4-(QD i).toNat)
   case atStart=>exact⟨0,oo,rfl,b,c,f,g⟩
   case round=>
    clear b f c g;obtain⟨k,O,rfl,b,c,f,g⟩:=hrel;have s:(fy a L m k).length=4:=by rw[zs,E]
    by_cases G:k<4
    .have h:=b.cell k;rw[cQ _ _ oo]at h;have j:=c.cell k;rw[cQ _ _ oo]at j;have T:=b.frozen k;have e:=Qh (p:=fy a L m (k+1)=(fy a L m k).set k (((fy a L m k).getD k 0&&&m)|||(L.getD k 0&&& ~~~m))) rfl
     generalize fy a L m k=A at b e s h;generalize A.getD k 0=x at h e;generalize L.getD k 0=y at j e;have P:(k:Int)<4:=oo
     have J:=nK x m;have K:=Yk y m;generalize x&&&m=u at J e;generalize y&&& ~~~m=v at K e;have M:=nT u v;generalize u|||v=z at M e
     go_wp2_with fail;go_region
     go_wp2;go_roundw
     case rel=>
      rw[b.set,eC];exact⟨k+1,oo,gn,by rw[show fy a L m (k+1)=_ from e.out];exact b.row _,c.other oo _,f.other oo _,(Qj g oo _).drew⟩
     case measure=>simp[QD];omega
    .have t:k=4:=oo
     subst t;generalize fy a L m 4=S at b s n;have D:=b;unfold Blk at D;have H:=Wz s;have X:=de (l:=S) f (by rw[s];rfl);go_wp2_with (first
      |(refine ld t71 rfl rfl w.heap.size rfl D H ?_))
     refine Qk (v:=Qp (Ws S)) ?_ rfl ⟨by rw[show R=_ from n.out],Qj g oo _⟩;exact rr t71 rfl rfl (f.row _) H
theorem En(a b:Ql)(w:Qm)(A:a.length=4)(C:b.length=4):
  Rw 121 #[Qp (Ws a),Qp (Ws b)] w (Qp (Ws (dI a b))):=by
 have O:=Wz A;have P:=Wz C;have r:=Qh (p:=dI a b=gJ (bT a b 4).1) rfl
 generalize dI a b=R at r|-;have c:=Qy (Qy (Qx w (Ws a) 71) (Qa (Ws b) 71)) (Qa (Ws [0,0,0,0]) 71);have h:=Qy (Qx (w.alloc (Qa (Ws a) 71)) (Ws b) 71) (Qa (Ws [0,0,0,0]) 71);have e:=Qx ((w.alloc (Qa (Ws a) 71)).alloc (Qa (Ws b) 71)) (Ws [0,0,0,0]) 71;have f:QE w.heap.size w (((w.alloc (Qa (Ws a) 71)).alloc (Qa (Ws b) 71)).alloc (Qa (Ws [0,0,0,0]) 71)):=
  ((bR.alloc nR _).alloc ss _).alloc (by simp;omega) _
 rw[show (w.alloc (Qa (Ws a) 71)).heap.size=w.heap.size+1 by simp]at h;rw[show ((w.alloc (Qa (Ws a) 71)).alloc (Qa (Ws b) 71)).heap.size=w.heap.size+1+1 by simp]at e;go_enter Tryz.func121,Tryz.ntmps121;go_wp2_with fail;rw[SZ4];generalize ((w.alloc (Qa (Ws a) 71)).alloc (Qa (Ws b) 71)).alloc (Qa (Ws [0,0,0,0]) 71)=G at c h e f|-;go_loopw [5,7] (λo i wr=> ∃k:Nat,k<=4/\i=Qq Qd k/\o=Qq Qc (U (bT a b k).2)/\Blk wr w.heap.size (Ws (bT a b k).1) 71/\Blk wr (w.heap.size+1) (Ws b) 71/\Blk wr (w.heap.size+1+1) (Ws [0,0,0,0]) 71/\QE w.heap.size w wr) (λ_ i _=>4-(QD i).toNat)
 case atStart=>exact⟨0,oo,rfl,rfl,c,h,e,f⟩
 case round=>
  clear c h e f G;obtain⟨k,J,rfl,rfl,c,h,e,f⟩:=hrel;have n:(bT a b k).1.length=4:=by rw[vP,A]
  by_cases K:k<4
  .have s:=c.cell k;rw[cQ _ _ oo]at s;have u:=h.cell k;rw[cQ _ _ oo]at u;have I:=c.frozen k;have g:=Qh (p:=bT a b (k+1)=((bT a b k).1.set k ((bT a b k).1.getD k 0+b.getD k 0+(bT a b k).2),Qz 64 ((((bT a b k).1.getD k 0).toNat+(b.getD k 0).toNat+(bT a b k).2.toNat)/18446744073709551616))) rfl
   have j:=FG ((bT a b k).1.getD k 0) (b.getD k 0) (bT a b k).2 (ME a b k);generalize (bT a b k).1=L at c n g s j;generalize (bT a b k).2=o at g j|-;generalize L.getD k 0=x at s g j;generalize b.getD k 0=y at u g j;generalize x+y+o=d at g j;generalize Qz 64 ((x.toNat+y.toNat+o.toNat)/18446744073709551616)=m at g j;have N:(k:Int)<4:=oo
   go_wp2_with fail;go_region
   go_wp2;go_roundw
   case rel=>
    rw[c.set,eC];refine⟨k+1,oo,gn,?_,?_,h.other oo _,e.other oo _,(Qj f oo _).drew⟩
    .rw[show bT a b (k+1)=_ from g.out]
    .rw[show bT a b (k+1)=_ from g.out];exact c.row _
   case measure=>simp[QD];omega
  .have D:k=4:=oo
   subst D;have q:=Qr λH=>V7 _ H n
   have t:(gJ (bT a b 4).1).length=4:=by rw[yw,n]
   generalize gJ (bT a b 4).1=T at r q t;generalize (bT a b 4).1=S at c n q;have z:=c;unfold Blk at z;have E:=Wz n;have F:=Wz t;go_wp2_with (first
    |(refine ld t71 rfl rfl w.heap.size rfl z E ?_))
   refine gv q λQ B=>?_
   replace e:=e.keep B;replace f:=f.trans (B.mono f.size);have M:=de (l:=T) e (by rw[t];rfl);go_wp2;refine Qk (v:=Qp (Ws T)) ?_ rfl ⟨by rw[show R=_ from r.out],Qj f oo _⟩;exact rr t71 rfl rfl (e.row _) F
theorem aar(a b:Ql)(w:Qm)(F:a.length=4)(X:b.length=4):
  Rw 123 #[Qp (Ws a),Qp (Ws b)] w (Qp (Ws (pP a b))):=by
 have sa:=Wz F;have sb:=Wz X;have y:=Qh (p:=pP a b=eh a b 253) rfl
 generalize pP a b=R at y|-;have N:=(WS.start (w:=w)).new (Ws a) 71;have h2:=N.new (Ws b) 71;rw[show (w.alloc (Qa (Ws a) 71)).heap.size=w.heap.size+1 by simp]at h2;have B:=h2.new (Ws [0,0,0,0]) 71;rw[show ((w.alloc (Qa (Ws a) 71)).alloc (Qa (Ws b) 71)).heap.size=w.heap.size+1+1 by simp]at B;have e:=B.new (Ws [0,0,0,0]) 71;rw[show (((w.alloc (Qa (Ws a) 71)).alloc (Qa (Ws b) 71)).alloc (Qa (Ws [0,0,0,0]) 71)).heap.size=w.heap.size+1+1+1 by simp]at e;clear N h2 B;go_enter Tryz.func123,Tryz.ntmps123;go_wp2_with fail;rw[SZ4];generalize (((w.alloc (Qa (Ws a) 71)).alloc (Qa (Ws b) 71)).alloc (Qa (Ws [0,0,0,0]) 71)).alloc (Qa (Ws [0,0,0,0]) 71)=w1 at e|-;go_loopw [6] (λc wr=> ∃n:Nat,n<=253/\c=Qq Qd (252-(n:Int))/\WS w w.heap.size [(w.heap.size+1+1+1,Ws (eh a b n),71),(w.heap.size+1+1,Ws [0,0,0,0],71),(w.heap.size+1,Ws b,71),(w.heap.size,Ws a,71)] wr) (λc _=>((QD c)+1).toNat)
 case atStart=>exact⟨0,oo,rfl,e⟩
 case round=>
  clear e;obtain⟨n,hn,rfl,e⟩:=hrel;have j:=tN a b n;by_cases an:n<253
  .have k:=Qh (p:=eh a b (n+1)=dI (dI (eh a b n) (eh a b n)) (iN a (kF b (252-n)))) (by rw[eh])
   obtain⟨m,W⟩:∃m:Nat,m=252-n:=⟨_,rfl⟩
   rw[<-W]at k;have s:(252-(n:Int))=(m:Int):=oo
   rw[s];have ah:m<=252:=oo
   clear W;replace s:=Qh s;have i3:(0:Int)<=(m:Int):=oo
   generalize Q:eh a b n=S at e j k;replace Q:=Qh Q;have I:=Qr λo=>En S S o j j
   have u:(dI S S).length=4:=by rw[kj,j]
   have J:=Qr λo=>Zl b m o X oo
   generalize dI S S=P at I u k;generalize kF b m=t at J k;have L:=Qr λo=>Yi a t o F
   have G:(iN a t).length=4:=by rw[G9,F]
   generalize iN a t=O at L G k;have M:=Qr λo=>En P O o u G
   have H:(dI P O).length=4:=by rw[kj,u]
   generalize dI P O=T at M H k;have r:=Wz j;have sT:=Wz H;clear u G;go_wp2_with fail;refine bu (S:=WS w (w.heap.size) [(w.heap.size+1+1+1,Ws S,71),(w.heap.size+1+1,Ws [0,0,0,0],71),(w.heap.size+1,Ws b,71),(w.heap.size,Ws a,71)]) (ls:=[9]) kr ?_;have g:=e.drew;clear e;generalize World.drew wr=rd at g|-;refine ar 0 11 t71 (λ_ h=>h.get 0 rfl) r g ?_;refine ar 1 12 t71 (λ_ h=>h.get 0 rfl) r g ?_;refine ar 3 14 t71 (λ_ h=>h.get 3 rfl) sa g ?_;simp only[qQ];refine ar 4 15 t71 (λ_ h=>h.get 2 rfl) sb g ?_;refine ae 5 16 g ?_;try simp only[qQ]
   refine aF 2 λK d=>?_
   go_simp;go_wp2_with (go_at_call 121;refine gv I λao f=>?_);have C:=g.keep f;refine d.out _ _ C ?_;try simp only[qQ]
   clear d K f g;refine aF 6 λK d=>?_
   go_simp;go_wp2_with (go_at_call 176;refine gv J λap f=>?_);have D:=C.keep f;refine d.out _ _ D ?_;try simp only[qQ]
   clear d K f C;refine aF 7 λK d=>?_
   go_simp;go_wp2_with (go_at_call 184;refine gv L λax f=>?_);have E:=D.keep f;refine d.out _ _ E ?_;try simp only[qQ]
   clear d K f D;refine aF 8 λK d=>?_
   go_simp;go_wp2_with (go_at_call 121;refine gv M λag f=>?_);have q:=E.keep f;refine d.out _ _ q ?_;try simp only[qQ]
   clear d K f E;refine eF 9 λK d=>?_
   have Z:=de (l:=T) (q.get 0 rfl) (by rw[r,H]);go_simp;refine d.out _ _ ?_;clear d K Z;replace q:=q.upd (w.heap.size+1+1+1) (Ws T) 71 [(w.heap.size+1+1+1,Ws T,71),(w.heap.size+1+1,Ws [0,0,0,0],71),(w.heap.size+1,Ws b,71),(w.heap.size,Ws a,71)] ⟨_,mG (i:=0) rfl⟩ (by intro x hx;simp only[List.mem_cons,List.not_mem_nil,or_false]at hx;rcases hx with rfl|rfl|rfl|rfl<;>first|exact Or.inl rfl|exact Or.inr ⟨ss,by dsimp only;omega⟩);generalize ag.setRow (w.heap.size+1+1+1) (Ws T)=ay at q|-;refine aC ?_;go_wp2;go_roundw
   case rel=>
    refine⟨n+1,oo,by have:=s.out;go_num,?_⟩;rw[show eh a b (n+1)=_ from k.out];exact q
   case measure=>have:=s.out;simp[QD];try omega
  .have ad:n=253:=oo
   subst ad;generalize eh a b 253=S at e j y;have z:=e.get 0 rfl;have A:=e.get 1 rfl;dsimp only at z A;have Z:=de (l:=S) A (by rw[j];rfl);have r:=Wz j;have ab:=A;unfold Blk at z;go_wp2_with (first
    |(refine ld t71 rfl rfl (w.heap.size+1+1+1) rfl z r ?_))
   refine Qk (v:=Qp (Ws S)) ?_ rfl ⟨by rw[show R=_ from y.out],Qj e.below oo _⟩;exact rr t71 rfl rfl (ab.row _) r
theorem Yj(s:Qu)(k:Nat):bits BinOp.and Qc (((s.getD (k/8) 0).toNat:Int)/2^(k%8)) 1=U (pQ s k):=by
 generalize e:s.getD (k/8) 0=x;have d:x.toNat/2^(k%8)<256:=QF (QH _ _) x.toNat_lt;have a:(x.toNat:Int)/2^(k%8)=((x.toNat/2^(k%8):Nat):Int):=ss
 unfold pQ;rw[e,a];generalize x.toNat/2^(k%8)=n at d;have b:=wK n oo;have c:(1:Int)=U 1:=rfl;rw[b,c,nK];unfold U;congr 1
 rw[QC,QA,QA,QG oo,QG oo];show n&&&1=n%2
 exact Nat.and_one_is_mod n
theorem TZ(s:Qb)(w:Qm)(X:s.size<=1000000):
  Rw 114 #[Qt s] w (Qp (Ws (iX s.data.toList))):=by
 have E:s.data.toList.length=s.size:=ss
 have m:=Qh (p:=iX s.data.toList=jl s.data.toList (8*s.size)) (by rw[iX,E])
 generalize iX s.data.toList=R at m|-;have e:Blk ((w.alloc (Qa (Ws [0,0,0,0]) 71)).alloc (Qa (Ws [0,0,0,0]) 71)) w.heap.size (Ws [0,0,0,0]) 71:=Qn w _ _;have b:Blk ((w.alloc (Qa (Ws [0,0,0,0]) 71)).alloc (Qa (Ws [0,0,0,0]) 71)) (w.heap.size+1) (Ws [0,0,0,0]) 71:=Qo w _ _;have d:QE w.heap.size w ((w.alloc (Qa (Ws [0,0,0,0]) 71)).alloc (Qa (Ws [0,0,0,0]) 71)):=(bR.alloc nR _).alloc ss _;have Z:Qd.wrap (8*(s.size:Int))=8*(s.size:Int):=by rw[Qe];omega
 have ab:Qd.wrap (8*(s.size:Int)-1)=8*(s.size:Int)-1:=by rw[Qe];omega
 go_enter Tryz.func114,Tryz.ntmps114;go_wp2_with fail;rw[SZ4];generalize (w.alloc (Qa (Ws [0,0,0,0]) 71)).alloc (Qa (Ws [0,0,0,0]) 71)=M at e b d|-;go_loopw [4] (λc wr=> ∃n:Nat,n<=8*s.size/\c=Qq Qd (8*(s.size:Int)-1-(n:Int))/\Blk wr (w.heap.size+1) (Ws (jl s.data.toList n)) 71/\Blk wr w.heap.size (Ws [0,0,0,0]) 71/\QE w.heap.size w wr) (λc _=>((QD c)+1).toNat)
 case atStart=>exact⟨0,oo,ss,b,e,d⟩
 case round=>
  clear e b d M;obtain⟨n,W,rfl,b,e,d⟩:=hrel;have f:=wR s.data.toList n;by_cases Q:n<8*s.size
  .have i:=Qh (p:=jl s.data.toList (n+1)=dI (dI (jl s.data.toList n) (jl s.data.toList n)) [pQ s.data.toList (8*s.size-1-n),0,0,0]) (by rw[jl,E])
   obtain⟨a,C⟩:∃a:Nat,a=8*s.size-1-n:=⟨_,rfl⟩
   rw[<-C]at i;have h:(8*(s.size:Int)-1-(n:Int))=(a:Int):=oo
   rw[h];have N:a<8*s.size:=oo
   clear C;replace h:=Qh h;have i3:(0:Int)<=(a:Int):=oo
   have D:=Cl s (a/8) oo;have J:∀g:Qm,(Instr.index 9 (Qt s) (Qq Qd ((a:Int)/8))).run QI g=.ok (Qq Qf ((s.data.toList.getD (a/8) 0).toNat:Int)) g:=by
    intro g;have:((a:Int)/8)=((a/8:Nat):Int):=oo
    rw[this];exact D g
   have t:=Yj s.data.toList a;generalize s.data.toList.getD (a/8) 0=x at D J t;generalize pQ s.data.toList a=j at t i;have i1:Qd.wrap ((a:Int)/8)=((a/8:Nat):Int):=by rw[Qe];omega
   have i2:(a:Int).tmod 8=((a%8:Nat):Int):=by rw[QJ oo];omega
   have i4:((a%8:Nat):Int)<8:=oo
   have O:bits BinOp.and Qc (Qc.wrap ((x.toNat:Int)/2^(a%8))) 1=U j:=by
    have H:x.toNat/2^(a%8)<256:=QF (QH _ _) x.toNat_lt;have F:(x.toNat:Int)/2^(a%8)=((x.toNat/2^(a%8):Nat):Int):=ss
    have G:Qc.wrap ((x.toNat/2^(a%8):Nat):Int)=((x.toNat/2^(a%8):Nat):Int):=by
     generalize x.toNat/2^(a%8)=n at H;rw[Qi];omega
    rw[<-t,F,G]
   generalize I:jl s.data.toList n=S at b f i;clear I;have z:=Qr λg=>En S S g f f
   have r:(dI S S).length=4:=by rw[kj,f]
   generalize dI S S=P at z r i;have A:Hid (Rv 121 #[Qp (Ws P),Qp #[Qq Qc (U j),Qq Qc 0,Qq Qc 0,Qq Qc 0]] (Qp (Ws (dI P [j,0,0,0])))):=λg=>En P [j,0,0,0] g r rfl
   have y:(dI P [j,0,0,0]).length=4:=by rw[kj,r]
   generalize dI P [j,0,0,0]=T at A y i;have k:=Wz f;have sT:=Wz y;clear r;have u:=b;unfold Blk at u;go_wp2_with (first
    |(refine ld t71 rfl rfl (w.heap.size+1) rfl u k ?_))
   refine gv z λx1 o=>?_
   replace b:=b.keep o;replace e:=e.keep o;replace d:=d.trans (o.mono d.size);clear o u;go_wp2_with fail;refine gv A λx2 q=>?_
   replace b:=b.keep q;replace e:=e.keep q;replace d:=d.trans (q.mono d.size);clear q;have L:=de (l:=T) b (by rw[k,y]);go_wp2;go_roundw
   case rel=>
    refine⟨n+1,oo,by have:=h.out;go_num,?_,e.other oo _,Qj d oo _⟩;rw[show jl s.data.toList (n+1)=_ from i.out];exact b.row _
   case measure=>have:=h.out;simp[QD];try omega
  .have K:n=8*s.size:=oo
   have h:(8*(s.size:Int)-1-(n:Int))= -1:=oo
   rw[h];rw[<-K]at m;generalize jl s.data.toList n=S at b f m;have B:=b;unfold Blk at B;have k:=Wz f;have L:=de (l:=S) e (by rw[f];rfl);go_wp2_with (first
    |(refine ld t71 rfl rfl (w.heap.size+1) rfl B k ?_))
   refine Qk (v:=Qp (Ws S)) ?_ rfl ⟨by rw[show R=_ from m.out],Qj d oo _⟩;exact rr t71 rfl rfl (e.row _) k
theorem SO(a:Ql)(w:Qm)(t:a.length=4):
  Rw 124 #[Qp (Ws a)] w (Qt ⟨(br a 32).toArray⟩):=by
 have K:=Wz t;have B:=UZ;generalize h:br a 32=R;replace h:=Qh h;have f:Blk ((w.alloc (Qa (Ws a) 71)).alloc (Qa (Bs (aq 32)) 130)) w.heap.size (Ws a) 71:=Qn w _ _;have b:Blk ((w.alloc (Qa (Ws a) 71)).alloc (Qa (Bs (aq 32)) 130)) (w.heap.size+1) (Bs (aq 32)) 130:=Qo w _ _;have d:QE w.heap.size w ((w.alloc (Qa (Ws a) 71)).alloc (Qa (Bs (aq 32)) 130)):=(bR.alloc nR _).alloc ss _;go_enter Tryz.func124,Tryz.ntmps124;go_wp2_with fail;generalize (w.alloc (Qa (Ws a) 71)).alloc (Qa (Bs (aq 32)) 130)=L at f b d|-;clear B;go_loopw [5] (λc wr=> ∃k:Nat,k<=32/\c=Qq Qd (k:Int)/\Blk wr w.heap.size (Ws a) 71/\Blk wr (w.heap.size+1) (Bs (br a k)) 130/\QE w.heap.size w wr) (λc _=>32-(QD c).toNat)
 case atStart=>exact⟨0,oo,rfl,f,b,d⟩
 case round=>
  clear f b d;obtain⟨k,D,rfl,f,b,d⟩:=hrel;have x:=mJ a k;by_cases E:k<32
  .have i:=Qh (p:=br a (k+1)=(br a k).set k ((a.getD (k/8) 0>>>(k%8*8)).toNat.toUInt8)) (by rw[br];rfl)
   have n:=f.cell (k/8);rw[cQ _ _ (show k/8<a.length by omega)]at n;have m:=b.cell k;rw[pY _ _ oo]at m;have C:=b.frozen k;have G:Qd.wrap ((k:Int)/8)=((k/8:Nat):Int):=by rw[Qe];omega
   have H:Qd.wrap ((k:Int).tmod 8*8)=((k%8*8:Nat):Int):=by rw[Qe,QJ oo];omega
   have I:((k/8:Nat):Int)<4:=oo
   have J:((k%8*8:Nat):Int)<64:=oo
   generalize o:k/8=q at*;generalize j:k%8*8=g at*;replace o:=Qh o;replace j:=Qh j;generalize a.getD q 0=y at n i;generalize (br a k).getD k 0=z at m;have s:=vq y g;have l:=GV (y>>>g);have r:Qf.wrap (U y/2^g)=((y>>>g).toNat.toUInt8.toNat:Int):=by rw[s,l]
   generalize (y>>>g).toNat.toUInt8=v at i l r;clear l s;have F:(k:Int)<32:=oo
   go_wp2;go_roundw
   case rel=>
    have e:U y/2^(k%8*8)%256=(v.toNat:Int):=by rw[j.out,<-Qg,r]
    rw[e,b.set,tn];refine⟨k+1,oo,gn,f.other oo _,?_,Qj d oo _⟩;rw[i.out];exact b.row _
   case measure=>simp[QD];omega
  .have u:k=32:=oo
   subst u;have A:=gc (cap:=32) b 32 x.symm;generalize br a 32=T at A h;go_wp2;go_ret;exact⟨by rw[<-show T=R from h.out];rfl,d⟩
end Go.Proofs.YtclpbaokadfhhaaGreatDoor
