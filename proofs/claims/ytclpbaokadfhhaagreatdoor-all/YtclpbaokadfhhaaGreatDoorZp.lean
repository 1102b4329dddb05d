import Derived.Test.YtclpbaokadfhhaaGreatDoorZo
import Derived.Test.YtclpbaokadfhhaaGreatDoorShelf
set_option maxRecDepth 100000
set_option maxHeartbeats 2000000
open Go.Value renaming int->Qa,agg->Qc,string->Qd,slice->Qe
open Go.IntKind renaming u64->Qf,i64->Qg,wrap_i64->Qi
open Go.Obj renaming cells->Qj
open Go renaming heap_alloc2_new->Qk,heap_alloc2_old->Qm,World->Qn,below_setRow->Qo,bodyPost_ret->Qp
open List renaming replicate->Qq
open BitVec renaming ofNat->Qt
open UInt8 renaming toBitVec_inj->Qx
open Go.RowKit renaming Below->Qy,intOf->Qz
open Go.RowKit.Below renaming trans->QA,mono->QB
namespace Go.Proofs.YtclpbaokadfhhaaGreatDoor
open Go.RowKit
def cj(n:Nat):Nat:=(16-n%16)%16
def bS(s:ByteArray):ByteArray:=s++⟨(Qq (cj s.size) 0).toArray⟩
theorem o7(s:Qb):(bS s).size=s.size+cj s.size:=by
 unfold bS;rw[ByteArray.size_append];congr 1;show(Qq (cj s.size) (0:UInt8)).toArray.size=_;simp
theorem GP(s:Qb):(bS s).size%16=0:=by rw[o7];unfold cj;omega
def qT(n:Nat):List UInt8:=eg (aq 8) 0 (Qt 64 n) 8
def cE(s:ByteArray):ByteArray:=⟨(qT s.size).toArray⟩
theorem uL(n:Nat):(qT n).length=8:=by unfold qT;rw[jp];rfl
theorem mT(s:Qb):(cE s).size=8:=by show(qT s.size).toArray.size=8;simp[uL]
theorem XI(s:Qb)(w:Qn)(i:s.size<=1000000):
  Rw 180 #[Qd s] w (Qd (bS s)):=by
 have b:=Tryz.strings_Repeat ⟨#[0]⟩ (cj s.size) w (by unfold cj;omega) (by show 1*_<=_;unfold cj;omega);rw[show Lib.repeatL (⟨#[0]⟩:ByteArray).data.toList (cj s.size)=Qq (cj s.size) 0 by
  have:=Lib.repeatL_replicate 0 1 (cj s.size);rw[Nat.mul_one]at this;exact this]at b
 have c:=Qh b;clear b;have a:=Qh (p:=bS s=s++⟨(Qq (cj s.size) 0).toArray⟩) rfl
 have g:((16:Int)-(s.size:Int)%16)%16=(cj s.size:Nat):=by unfold cj;omega
 have f:cj s.size<=16:=by unfold cj;omega
 generalize bS s=R at a|-;generalize cj s.size=n at c a g f;go_enter Tryz.func180,Tryz.ntmps180;go_wp2_with fail;refine c.out.mono ?_;rintro e j ⟨rfl,d⟩;have h:(⟨(Qq n (0:UInt8)).toArray⟩:ByteArray).size=n:=by show(Qq n (0:UInt8)).toArray.size=n;simp
 generalize (⟨(Qq n (0:UInt8)).toArray⟩:ByteArray)=z at h a|-;go_wp2;go_ret;exact⟨by rw[show R=_ from a.out];rfl,d⟩
theorem aaY(w:Qn):Sem.run Tryz.prog (zeroValue 217) w=.ok (Qc (Bs (aq 8))) w:=kr
theorem VD(s:Qb)(w:Qn)(r:s.size<=1000000):
  Rw 181 #[Qd s] w (Qd (cE s)):=by
 have u:=aaY;have d:=Blk.new w (Bs (aq 8)) 217;have c:Qy w.heap.size w (w.alloc (Qj (Bs (aq 8)) 217)):=bR.alloc nR _;have e:Hid ((s.size:Int)=U (Qt 64 s.size)):=by
  have:=wK s.size oo;exact this
 have b:=Qh (p:=cE s=⟨(eg (aq 8) 0 (Qt 64 s.size) 8).toArray⟩) rfl
 generalize cE s=R at b|-;generalize Qt 64 s.size=x at e b;have h:=Qh (p:=∀k:Nat,(s.size:Int)/2^(8*k)%256=((mE x k).toNat:Int)) (λk=>by rw[e.out,Bc])
 go_enter Tryz.func181,Tryz.ntmps181;go_wp2;generalize w.alloc (Qj (Bs (aq 8)) 217)=n at d c|-;go_loopw [5] (λi wr=> ∃k:Nat,k<=8/\i=Qa Qg k/\Blk wr w.heap.size (Bs (eg (aq 8) 0 x k)) 217/\Qy w.heap.size w wr) (λi _=>8-(Qz i).toNat)
 case atStart=>exact⟨0,oo,rfl,d,c⟩
 case round=>
  clear d c n;obtain⟨k,q,rfl,a,f⟩:=hrel;by_cases m:k<8
  .have j:=a.cell k;rw[pY _ _ (by rw[jp];exact m)]at j;have o:=a.frozen k;have v:(k:Int)<8:=oo
   go_wp2;go_roundw
   case rel=>
    refine⟨k+1,oo,gn,?_,f.setCell nR _⟩;rw[a.set,h.out,tn];have:=a.row (Bs ((eg (aq 8) 0 x k).set k (mE x k)));rw[show eg (aq 8) 0 x (k+1)=(eg (aq 8) 0 x k).set (0+k) (mE x k)from rfl,Nat.zero_add];exact this
   case measure=>simp[Qz];omega
  .have l:k=8:=oo
   subst l;have g:(eg (aq 8) 0 x 8).length=8:=by rw[jp];rfl
   generalize eg (aq 8) 0 x 8=L at a b g;have t:=gc (cap:=8) a 8 g.symm;go_wp2;go_ret;exact⟨by rw[show R=_ from b.out];rfl,f⟩
def va(f g:Nat->UInt8):Nat->UInt8
 |0=>0
 |k+1=>va f g k|||(f k^^^g k)
theorem Fk(f g:Nat->UInt8)(n:Nat):va f g n=0↔ ∀i,i<n->f i=g i:=by
 induction n with
 |zero=>exact⟨λ_ i h=>oo,λ_=>rfl⟩
 |succ n b=>
  rw[va];constructor
  .intro h i c;have a:va f g n=0/\f n^^^g n=0:=by
    have:=h;rw[<-Qx]at this;simp only[UInt8.toBitVec_or,UInt8.toBitVec_ofNat,BitVec.or_eq_zero_iff]at this;exact⟨by rw[<-Qx];simpa using this.1,by rw[<-Qx];simpa using this.2⟩
   by_cases e:i=n
   .subst e;exact UInt8.xor_eq_zero_iff.1 a.2
   .exact b.1 a.1 i oo
  .intro h;rw[b.2 λi c=>h i oo,h n oo];simp
theorem Xs(a c:UInt8):bits .or .u8 (a.toNat:Int) (c.toNat:Int)=((a|||c).toNat:Int):=by
 rw[u8_or_nat _ _ a.toNat_lt c.toNat_lt,UInt8.toNat_or]
def Fp(a b:ByteArray):Bool:=decide (a=b)
theorem Zx(a b:Qb)(f:a.size=16)(j:b.size=16):(decide (((va (λi=>a.data.toList.getD i 0) (λi=>b.data.toList.getD i 0) 16).toNat:Int)=0))=Fp a b:=by
 unfold Fp;congr 1
 apply propext
 constructor
 .intro h;have h0:va (λi=>a.data.toList.getD i 0) (λi=>b.data.toList.getD i 0) 16=0:=by
   rw[<-UInt8.toNat_inj];simpa using h
  have e:=(Fk _ _ _).1 h0;apply ByteArray.ext
  apply Array.ext
  .show a.size=b.size;omega
  .intro i h2 g;have:=e i (by rw[<-f];exact h2);simp only[List.getD_eq_getElem?_getD]at this;have c:a.data.toList[i]? =some a.data[i]:=ss
   have d:b.data.toList[i]? =some b.data[i]:=ss
   rw[c,d]at this;simpa using this
 .intro h;subst h;rw[(Fk _ _ _).2 λi _=>rfl];rfl
theorem VB(a b:Qb)(w:Qn)(r:a.size=16)(s:b.size=16):
  Rw 127 #[Qd a,Qd b] w (.bool (Fp a b)):=by
 have c:=Qh (Zx a b r s);generalize Fp a b=R at c|-;have l:=Qh λi h=>gh a i h
 have m:=Qh λi h=>gh b i h
 obtain⟨f,e⟩:∃f:Nat->UInt8,f=λi=>a.data.toList.getD i 0:=⟨_,rfl⟩
 obtain⟨g,j⟩:∃g:Nat->UInt8,g=λi=>b.data.toList.getD i 0:=⟨_,rfl⟩
 have o:Hid (∀i (h:i<a.size),a[i]=f i):=λi h=>by rw[e];exact l.out i h
 have p:Hid (∀i (h:i<b.size),b[i]=g i):=λi h=>by rw[j];exact m.out i h
 rw[<-e,<-j]at c;clear l m e j;go_enter Tryz.func127,Tryz.ntmps127;go_wp2;go_loopw [5,7] (λd i wr=> ∃k:Nat,k<=16/\i=Qa Qg k/\d=Qa .u8 ((va f g k).toNat:Int)/\Qy w.heap.size w wr) (λ_ i _=>16-(Qz i).toNat)
 case atStart=>exact⟨0,oo,rfl,rfl,Below.refl _ _⟩
 case round=>
  obtain⟨k,x,rfl,rfl,n⟩:=hrel;by_cases y:k<16
  .have t:k<a.size:=oo
   have u:k<b.size:=oo
   have v:=o.out k t;have h2:=p.out k u;have z:(k:Int)<16:=oo
   have A:(k:Int)<a.size:=oo
   have B:(k:Int)<b.size:=oo
   go_wp2_with fail;go_quiet (fail)
   go_wp2;go_roundw
   case rel=>exact⟨k+1,oo,gn,cH (by rw[za,Xs];rfl),below_drewN n _⟩
   case measure=>simp[Qz];omega
  .have q:k=16:=oo
   subst q;go_wp2;go_ret;exact⟨by rw[<-show _=R from c.out];rfl,n⟩
def AD(l:List UInt8):List UInt8:=if l.length=16 then l else(l++aq (16-l.length)).set l.length 1
def pk(l:List UInt8)(above:BitVec 64):List (BitVec 64):=iL (ci (λi=>l.getD i 0) 8) (ci (λi=>l.getD (8+i) 0) 8) above
def eT(l:List UInt8):List (BitVec 64):=pk (AD l) (if l.length=16 then 1 else 0)
theorem Ih(b t:Nat)(l:Qu)(w:Qn)(a:Blk w b (Bs l) t)(d:l.length=16):
  Rw 219 #[Qe (some ⟨b,0,none⟩) 16 16] w (Qc (Ws [ci (λi=>l.getD i 0) 8,ci (λi=>l.getD (8+i) 0) 8])):=
 Ch b 0 16 16 (λi=>l.getD i 0) w oo oo (λi c=>by rw[Nat.zero_add,a.cell,pY _ _ oo])
theorem Vl(s:Qb)(w:Qn)(Q:s.size<=16):
  Rw 222 #[Qd s] w (Qc (Ws (eT s.data.toList))):=by
 have J:s.data.toList.length=s.size:=ss
 have S:=Be;have t:=Lib.run_copy_row_string (P:=Tryz.prog) ((w.alloc (Qj (Ws [0,0,0,0,0]) 208)).alloc (Qj (Bs (aq 16)) 179)) 55 9 3 5 (w.heap.size+1) 0 16 16 s (Bs (aq 16)) 179 Tryz.underlying55 Tryz.infoByte1 (Qk w _ _) oo (by rw[rY,fD];omega);have z:=World.setRow_alloc_new (w.alloc (Qj (Ws [0,0,0,0,0]) 208)) (Bs (aq 16)) (Bs (s.data.toList++aq (16-s.size))) 179;rw[show (w.alloc (Qj (Ws [0,0,0,0,0]) 208)).heap.size=w.heap.size+1 by simp]at z;rw[NV s 16,z,<-Z5]at t;clear z;have r:(s.data.toList++aq (16-s.size)).length=16:=by simp[fD];omega
 by_cases G:s.size=16
 .have c:Hid (eT s.data.toList=pk (s.data.toList++aq (16-s.size)) 1):=by
   have:eT s.data.toList=pk (s.data.toList++aq (16-s.size)) 1:=by
    unfold eT AD;rw[if_pos oo,if_pos oo,G];simp[aq]
   exact this
  generalize s.data.toList++aq (16-s.size)=a at t r c;generalize eT s.data.toList=R at c|-;have j:Blk ((w.alloc (Qj #[Qa Qf 0,Qa Qf 0,Qa Qf 0,Qa Qf 0,Qa Qf 0] 208)).alloc (Qj (Bs a) 179)) w.heap.size (Ws [0,0,0,0,0]) 208:=Qm w _ _;have f:Blk ((w.alloc (Qj #[Qa Qf 0,Qa Qf 0,Qa Qf 0,Qa Qf 0,Qa Qf 0] 208)).alloc (Qj (Bs a) 179)) (w.heap.size+1) (Bs a) 179:=Qk w _ _;have d:Qy w.heap.size w ((w.alloc (Qj #[Qa Qf 0,Qa Qf 0,Qa Qf 0,Qa Qf 0,Qa Qf 0] 208)).alloc (Qj (Bs a) 179)):=(bR.alloc nR _).alloc ss _;have D:=Ih (w.heap.size+1) 179 a _ f r;have q:=Qh D;clear D;have b:Hid (Rv 217 #[Qc (Ws [ci (λi=>a.getD i 0) 8,ci (λi=>a.getD (8+i) 0) 8]),Qa Qf 1] (Qc (Ws (pk a 1)))):=λC=>zh _ _ 1 C
  have k:(pk a 1).length=5:=rfl;generalize pk a 1=h at b c k;generalize ci (λi=>a.getD i 0) 8=M at q b;generalize ci (λi=>a.getD (8+i) 0) 8=I at q b;have L:(s.size:Int)=16:=oo
  go_enter Tryz.func222,Tryz.ntmps222;go_wp2_with fail;generalize (w.alloc (Qj #[Qa Qf 0,Qa Qf 0,Qa Qf 0,Qa Qf 0,Qa Qf 0] 208)).alloc (Qj (Bs a) 179)=N at j f d q|-;refine q.out.mono ?_;rintro e B ⟨rfl,n⟩;have y:=j.keep n;have m:=d.trans (n.mono d.size);go_wp2_with fail;refine mo (b.out B) λO o=>?_;have p:=y.keep o;have u:=m.trans (o.mono m.size);have K:=de (l:=h) p (by rw[k,dA];rfl);have A:=Wz k;go_wp2;refine Qp (v:=Qc (Ws h)) ?_ rfl ⟨by rw[show R=h from c.out],Qo u nR _⟩;exact rr ze rfl rfl (p.row _) A
 .have c:Hid (eT s.data.toList=pk ((s.data.toList++aq (16-s.size)).set s.size 1) 0):=by
   have:eT s.data.toList=pk ((s.data.toList++aq (16-s.size)).set s.size 1) 0:=by
    unfold eT AD;rw[if_neg oo,if_neg oo,J]
   exact this
  generalize s.data.toList++aq (16-s.size)=a at t r c;generalize eT s.data.toList=R at c|-;have j:Blk ((w.alloc (Qj #[Qa Qf 0,Qa Qf 0,Qa Qf 0,Qa Qf 0,Qa Qf 0] 208)).alloc (Qj (Bs a) 179)) w.heap.size (Ws [0,0,0,0,0]) 208:=Qm w _ _;have f:Blk ((w.alloc (Qj #[Qa Qf 0,Qa Qf 0,Qa Qf 0,Qa Qf 0,Qa Qf 0] 208)).alloc (Qj (Bs a) 179)) (w.heap.size+1) (Bs a) 179:=Qk w _ _;have d:Qy w.heap.size w ((w.alloc (Qj #[Qa Qf 0,Qa Qf 0,Qa Qf 0,Qa Qf 0,Qa Qf 0] 208)).alloc (Qj (Bs a) 179)):=(bR.alloc nR _).alloc ss _;have b:Hid (Rv 217 #[Qc (Ws [ci (λi=>(a.set s.size 1).getD i 0) 8,ci (λi=>(a.set s.size 1).getD (8+i) 0) 8]),Qa Qf 0] (Qc (Ws (pk (a.set s.size 1) 0)))):=λC=>zh _ _ 0 C
  have k:(pk (a.set s.size 1) 0).length=5:=rfl;generalize pk (a.set s.size 1) 0=h at b c k;have L:¬(s.size:Int)=16:=oo
  have T:(s.size:Int)<16:=oo
  go_enter Tryz.func222,Tryz.ntmps222;have F:=f.cell s.size;rw[pY _ _ oo]at F;have H:=f.frozen s.size;go_wp2_with fail;have x:=tn a s.size 1;rw[show (((1:UInt8).toNat:Nat):Int)=1 from rfl]at x;rw[x];clear F H x j f d t;have E:(a.set s.size 1).length=16:=by rw[List.length_set,r]
  generalize a.set s.size 1=g at b c E|-;have j:Blk ((w.alloc (Qj #[Qa Qf 0,Qa Qf 0,Qa Qf 0,Qa Qf 0,Qa Qf 0] 208)).alloc (Qj (Bs g) 179)) w.heap.size (Ws [0,0,0,0,0]) 208:=Qm w _ _;have f:Blk ((w.alloc (Qj #[Qa Qf 0,Qa Qf 0,Qa Qf 0,Qa Qf 0,Qa Qf 0] 208)).alloc (Qj (Bs g) 179)) (w.heap.size+1) (Bs g) 179:=Qk w _ _;have d:Qy w.heap.size w ((w.alloc (Qj #[Qa Qf 0,Qa Qf 0,Qa Qf 0,Qa Qf 0,Qa Qf 0] 208)).alloc (Qj (Bs g) 179)):=(bR.alloc nR _).alloc ss _;generalize (w.alloc (Qj #[Qa Qf 0,Qa Qf 0,Qa Qf 0,Qa Qf 0,Qa Qf 0] 208)).alloc (Qj (Bs g) 179)=N at j f d|-;refine mo (Ih (w.heap.size+1) 179 g _ f E) λB n=>?_;generalize ci (λi=>g.getD i 0) 8=M at b|-;generalize ci (λi=>g.getD (8+i) 0) 8=I at b|-;have y:=j.keep n;have m:=d.trans (n.mono d.size);go_wp2_with fail;refine mo (b.out B) λO o=>?_;have p:=y.keep o;have u:=m.trans (o.mono m.size);have K:=de (l:=h) p (by rw[k,dA];rfl);have A:=Wz k;go_wp2;refine Qp (v:=Qc (Ws h)) ?_ rfl ⟨by rw[show R=h from c.out],Qo u nR _⟩;exact rr ze rfl rfl (p.row _) A
def ug(f:Nat->UInt8):List (BitVec 64):=iL (ci f 8&&&1152921487695413247) (ci (λi=>f (8+i)) 8&&&1152921487695413244) 0
def gZ(r:List (BitVec 64))(s:ByteArray):Nat->List (BitVec 64)
 |0=>[0,0,0,0,0]
 |j+1=>jx (jq (gZ r s j) (eT (s.extract (16*j) (16*j+16)).data.toList)) r
theorem AA(r:Ql)(s:Qb)(j:Nat):(gZ r s j).length=5:=by
 cases j with
 |zero=>rfl
 |succ j=>exact wA _ _
def qI(f:Nat->UInt8)(s:ByteArray):List UInt8:=kO (fC (gZ (ug f) s (s.size/16))) (ci (λi=>f (16+i)) 8) (ci (λi=>f (24+i)) 8)
theorem ux(f:Nat->UInt8)(s:Qb):(qI f s).length=16:=FN _ _ _
theorem Ln(a b:Ql):(jq a b).length=a.length:=uK _ _ _
theorem Kw(l:Qu):(eT l).length=5:=rfl
theorem Xp(h0 a h2 c d:Qv)(b:Ql)(e:b.length=5)(w:Qn):
  Rw 221 #[Qc #[Qa Qf (U h0),Qa Qf (U a),Qa Qf (U h2),Qa Qf (U c),Qa Qf (U d)],Qc (Ws b)] w (Qc (Ws (jq [h0,a,h2,c,d] b))):=
 VC [h0,a,h2,c,d] b w rfl e
theorem U3(a:Ql)(e:a.length=5)(h0 b h2 c d:Qv)(w:Qn):
  Rw 220 #[Qc (Ws a),Qc #[Qa Qf (U h0),Qa Qf (U b),Qa Qf (U h2),Qa Qf (U c),Qa Qf (U d)]] w (Qc (Ws (jx a [h0,b,h2,c,d]))):=
 U4 a [h0,b,h2,c,d] w e rfl
theorem Tk(h0 a h2 b c:Qv)(w:Qn):
  Rw 224 #[Qc #[Qa Qf (U h0),Qa Qf (U a),Qa Qf (U h2),Qa Qf (U b),Qa Qf (U c)]] w (Qc (Ws (fC [h0,a,h2,b,c]))):=
 Tl [h0,a,h2,b,c] w rfl
def Og(p:Nat)(h r:List (BitVec 64))(w:Qn):Prop:=Blk w (p+1) (Ws h) 208/\Blk w p (Ws r) 208
theorem Zt(b off cap:Nat)(f:Nat->UInt8)(s:Qb)(w:Qn)(cd:32<=cap)(hm:cap<=1000000)(hs:s.size<=1000000)(ce:s.size%16=0)
  (hc:∀i,i<32->w.cell? ⟨b,off+i,none⟩=some (Qa .u8 (f i).toNat)):
  Rw 179 #[Qe (some ⟨b,off,none⟩) 32 cap,Qd s] w (Qc (Bs (qI f s))):=by
 have bs:=block_lt_of_cell (hc 0 oo);have HC:=Qh hc;clear hc;have hz:=Be;have D:=Qh (p:=qI f s=kO (fC (gZ (ug f) s (s.size/16))) (ci (λi=>f (16+i)) 8) (ci (λi=>f (24+i)) 8)) rfl
 have ao:(qI f s).length=16:=ux _ _;generalize qI f s=G at D ao|-;have N:Hid (Rv 218 #[Qc (Ws [ci f 8,ci (λi=>f (8+i)) 8])] (Qc (Ws [ci f 8&&&1152921487695413247,ci (λi=>f (8+i)) 8&&&1152921487695413244]))):=λo=>ND _ _ o
 have R:Hid (Rv 217 #[Qc (Ws [ci f 8&&&1152921487695413247,ci (λi=>f (8+i)) 8&&&1152921487695413244]),Qa Qf 0] (Qc (Ws (ug f)))):=λo=>zh _ _ 0 o
 have Z:Hid (∀(o:Qn),(∀i,i<16->o.cell? ⟨b,off+i,none⟩=some (Qa .u8 (f i).toNat))->Rw 219 #[Qe (some ⟨b,off,none⟩) 32 cap] o (Qc (Ws [ci f 8,ci (λi=>f (8+i)) 8]))):=λo h=>Ch b off 32 cap f o oo oo h
 have ab:=Qh λo h=>by
  have:=Ch b (off+16) 16 (cap-16) (λi=>f (16+i)) o oo oo h;rw[show yg (λi=>f (16+i))=[ci (λi=>f (16+i)) 8,ci (λi=>f (24+i)) 8] by
   show [ci (λi=>f (16+i)) 8,ci (λi=>f (16+(8+i))) 8]=_
   rw[show (λi=>f (16+(8+i)))=λi=>f (24+i)from funext λi=>by rw[<-Nat.add_assoc]]]at this
  exact this
 have bx:(ug f).length=5:=rfl;generalize ug f=r at D R bx;generalize ci f 8&&&1152921487695413247=y1 at N R;generalize ci (λi=>f (8+i)) 8&&&1152921487695413244=y2 at N R;generalize ci f 8=y3 at N Z;generalize ci (λi=>f (8+i)) 8=y4 at N Z;generalize ci (λi=>f (16+i)) 8=s0 at D ab;generalize ci (λi=>f (24+i)) 8=s1 at D ab;obtain⟨d,g,k,m,n,rfl⟩:=uh r bx;have b1:=Blk.new w (Bs (aq 16)) 179;have ad:Qy w.heap.size w (w.alloc (Qj (Bs (aq 16)) 179)):=bR.alloc nR _;go_enter Tryz.func179,Tryz.ntmps179;go_wp2_with fail;refine(Z.out _ ?_).mono ?_
 .intro i hi;rw[ad.cell (p:=⟨b,off+i,none⟩) bs];exact HC.out i oo
 rintro e w1 ⟨rfl,bi⟩;have q1:=b1.keep bi;have E:=ad.trans (bi.mono ad.size);clear b1 ad bi;go_wp2_with fail;refine gv N λw2 bk=>?_
 have q2:=q1.keep bk;have J:=E.trans (bk.mono E.size);clear q1 E bk;go_wp2_with fail;refine gv R λC bq=>?_
 have q3:=q2.keep bq;have O:=J.trans (bq.mono J.size);clear q2 J bq;rw[show Ws [d,g,k,m,n]=#[Qa Qf (U d),Qa Qf (U g),Qa Qf (U k),Qa Qf (U m),Qa Qf (U n)]from rfl];go_wp2_with fail;have I:Blk ((C.alloc (Qj #[Qa Qf (U d),Qa Qf (U g),Qa Qf (U k),Qa Qf (U m),Qa Qf (U n)] 208)).alloc (Qj #[Qa Qf 0,Qa Qf 0,Qa Qf 0,Qa Qf 0,Qa Qf 0] 208)) C.heap.size (Ws [d,g,k,m,n]) 208:=Qm C _ _;have A:Blk ((C.alloc (Qj #[Qa Qf (U d),Qa Qf (U g),Qa Qf (U k),Qa Qf (U m),Qa Qf (U n)] 208)).alloc (Qj #[Qa Qf 0,Qa Qf 0,Qa Qf 0,Qa Qf 0,Qa Qf 0] 208)) (C.heap.size+1) (Ws [0,0,0,0,0]) 208:=Qk C _ _;have M:=(q3.alloc (Qj #[Qa Qf (U d),Qa Qf (U g),Qa Qf (U k),Qa Qf (U m),Qa Qf (U n)] 208)).alloc (Qj #[Qa Qf 0,Qa Qf 0,Qa Qf 0,Qa Qf 0,Qa Qf 0] 208);have ca:=q3.lt;have F:Qy w.heap.size w ((C.alloc (Qj #[Qa Qf (U d),Qa Qf (U g),Qa Qf (U k),Qa Qf (U m),Qa Qf (U n)] 208)).alloc (Qj #[Qa Qf 0,Qa Qf 0,Qa Qf 0,Qa Qf 0,Qa Qf 0] 208)):=(O.alloc oo _).alloc (by simp;omega) _;generalize (C.alloc (Qj #[Qa Qf (U d),Qa Qf (U g),Qa Qf (U k),Qa Qf (U m),Qa Qf (U n)] 208)).alloc (Qj #[Qa Qf 0,Qa Qf 0,Qa Qf 0,Qa Qf 0,Qa Qf 0] 208)=w4 at I A M F|-;generalize C.heap.size=p at I A ca|-;clear q3 O N R Z;go_loopw [7] (λc wr=> ∃j:Nat,16*j<=s.size/\c=Qa Qg (16*j:Nat)/\Blk wr p (Ws [d,g,k,m,n]) 208/\Blk wr (p+1) (Ws (gZ [d,g,k,m,n] s j)) 208/\Blk wr w.heap.size (Bs (aq 16)) 179/\Qy w.heap.size w wr) (λc _=>s.size-(Qz c).toNat)
 case atStart=>exact⟨0,oo,rfl,I,A,M,F⟩
 case round=>
  clear I A M F w4;obtain⟨j,hj,rfl,I,A,M,F⟩:=hrel;by_cases b9:16*j<s.size
  .have b8:16*j+16<=s.size:=oo
   have HT:=Qh (p:=gZ [d,g,k,m,n] s (j+1)=jx (jq (gZ [d,g,k,m,n] s j) (eT (s.extract (16*j) (16*j+16)).data.toList)) [d,g,k,m,n]) rfl
   have W:(gZ [d,g,k,m,n] s j).length=5:=AA _ _ _;generalize gZ [d,g,k,m,n] s j=H at A HT W;obtain⟨h0,q,h2,t,u,rfl⟩:=uh H W;generalize b0:16*j=a at hj b9 b8 HT;have az:=Qh b0;clear b0;have bY:Hid (Rv 222 #[Qd (s.extract a (a+16))] (Qc (Ws (eT (s.extract a (a+16)).data.toList)))):=λo=>Vl _ o (by simp;omega)
   have ba:Hid (Rv 221 #[Qc #[Qa Qf (U h0),Qa Qf (U q),Qa Qf (U h2),Qa Qf (U t),Qa Qf (U u)],Qc (Ws (eT (s.extract a (a+16)).data.toList))] (Qc (Ws (jq [h0,q,h2,t,u] (eT (s.extract a (a+16)).data.toList))))):=λo=>Xp _ _ _ _ _ _ (Kw _) o
   have bd:Hid (Rv 220 #[Qc (Ws (jq [h0,q,h2,t,u] (eT (s.extract a (a+16)).data.toList))),Qc #[Qa Qf (U d),Qa Qf (U g),Qa Qf (U k),Qa Qf (U m),Qa Qf (U n)]] (Qc (Ws (jx (jq [h0,q,h2,t,u] (eT (s.extract a (a+16)).data.toList)) [d,g,k,m,n])))):=λo=>U3 _ (by rw[Ln];rfl) _ _ _ _ _ o
   have bt:(jx (jq [h0,q,h2,t,u] (eT (s.extract a (a+16)).data.toList)) [d,g,k,m,n]).length=5:=wA _ _;generalize jx (jq [h0,q,h2,t,u] (eT (s.extract a (a+16)).data.toList)) [d,g,k,m,n]=T at HT bd bt;generalize jq [h0,q,h2,t,u] (eT (s.extract a (a+16)).data.toList)=Q at ba bd;generalize eT (s.extract a (a+16)).data.toList=P at bY ba;obtain⟨c0,c1,c2,c3,c4⟩:=vj A;obtain⟨d0,d1,d2,d3,d4⟩:=vj I;have a0:(a:Int)<s.size:=oo
   have a1:(0:Int)<=(a:Int):=oo
   have a2:(a:Int)+16<=s.size:=oo
   have a3:Qg.wrap ((a:Int)+16)=(a:Int)+16:=by rw[Qi];omega
   have a4:min ((a:Int)+16) (s.size:Int)=(a:Int)+16:=oo
   have a5:(a:Int)<=(a:Int)+16:=oo
   have a6:(0:Int)<=(a:Int)+16:=oo
   have a7:((a:Int)+16).toNat=a+16:=oo
   have a8:a<=s.size:=oo
   have a9:a+16<=s.size:=oo
   have cp:=Wz bt;go_wp2_with fail;clear D ab HC bs hz ao bx;have x:Og p [h0,q,h2,t,u] [d,g,k,m,n] wr.drew:=⟨A,I⟩;have bz:Blk wr.drew w.heap.size (Bs (aq 16)) 179:=M;have E:=F.drew;refine tp (S:=Og p [h0,q,h2,t,u] [d,g,k,m,n]) (l:=13) kr ?_;clear c0 c1 c2 c3 c4 d0 d1 d2 d3 d4 M I A F;generalize World.drew wr=wd at x bz E|-;refine eq 1 x ?_;refine eq 2 x ?_;refine eq 3 x ?_;refine eq 4 x ?_;refine eq 5 x ?_;refine eq 6 x ?_;refine eq 7 x ?_;refine eq 8 x ?_;refine nH (i:=0) (v:= ?v0) rfl kr kr kr kr kr (λ_ _ _ h=>h) (Or.inl ⟨by rfl,?hy0⟩) x ?Y;case hy0=>(intro o bh;obtain⟨B,y⟩:=bh;obtain⟨c0,c1,c2,c3,c4⟩:=vj B;obtain⟨d0,d1,d2,d3,d4⟩:=vj y;clear B y;go_simp;try (with_reducible rfl))
   refine nH (i:=11) (v:= ?v11) rfl kr kr kr kr kr (λ_ _ _ h=>h) (Or.inl ⟨by rfl,?hy11⟩) x ?V;case hy11=>(intro o bh;obtain⟨B,y⟩:=bh;obtain⟨c0,c1,c2,c3,c4⟩:=vj B;obtain⟨d0,d1,d2,d3,d4⟩:=vj y;clear B y;go_simp;try (with_reducible rfl))
   refine ve (i:=9) kr rfl (λK z=>?_);go_simp;go_wp2_with (go_at_call 222;refine gv bY λx0 X=>?_);have ag:Og p [h0,q,h2,t,u] [d,g,k,m,n] x0:=⟨x.1.keep X,x.2.keep X⟩;have ap:=bz.keep X;have J:=E.trans (X.mono E.size);refine z.out _ _ ag ?_;clear z K x bz E X;try simp only[qQ]
   refine ve (i:=10) kr rfl (λK z=>?_);go_simp;go_wp2_with (go_at_call 221;refine gv ba λx1 B=>?_);have ah:Og p [h0,q,h2,t,u] [d,g,k,m,n] x1:=⟨ag.1.keep B,ag.2.keep B⟩;have ax:=ap.keep B;have O:=J.trans (B.mono J.size);refine z.out _ _ ah ?_;clear z K ag ap J B;try simp only[qQ]
   refine ve (i:=12) kr rfl (λK z=>?_);go_simp;go_wp2_with (go_at_call 220;refine gv bd λx2 y=>?_);have an:Og p [h0,q,h2,t,u] [d,g,k,m,n] x2:=⟨ah.1.keep y,ah.2.keep y⟩;have ay:=ax.keep y;have b5:=O.trans (y.mono O.size);refine z.out _ _ an ?_;clear z K ah ax O y;try simp only[qQ]
   refine xi kr rfl kr (λK z=>?_);have cc:=de (l:=T) an.1 (by rw[bt];rfl);go_simp;refine z.out _ _ ?_;clear z K;go_wp2;go_roundw
   case rel=>
    refine⟨j+1,by have:=az.out;omega,cH (by have:=az.out;omega),an.2.other oo _,?_,ay.other oo _,Qo b5 oo _⟩;rw[show gZ [d,g,k,m,n] s (j+1)=T from HT.out];exact an.1.row _
   case measure=>simp[Qz];have:=az.out;omega
  .have co:16*j=s.size:=oo
   have b7:s.size/16=j:=oo
   have W:(gZ [d,g,k,m,n] s j).length=5:=AA _ _ _;rw[b7]at D;generalize gZ [d,g,k,m,n] s j=H at A D W;obtain⟨h0,q,h2,t,u,rfl⟩:=uh H W;obtain⟨c0,c1,c2,c3,c4⟩:=vj A;have bX:Hid (Rv 224 #[Qc #[Qa Qf (U h0),Qa Qf (U q),Qa Qf (U h2),Qa Qf (U t),Qa Qf (U u)]] (Qc (Ws (fC [h0,q,h2,t,u])))):=λo=>Tk _ _ _ _ _ o
   have bb:Hid (Rv 223 #[Qc (Ws (fC [h0,q,h2,t,u])),Qc (Ws [s0,s1])] (Qc (Bs (kO (fC [h0,q,h2,t,u]) s0 s1)))):=λo=>Pz _ s0 s1 o (by rw[Hp];rfl)
   rw[<-show G=_ from D.out]at bb;generalize fC [h0,q,h2,t,u]=L at bX bb;clear D;have cr:(16:Int)<=cap:=oo
   have cb:=Bz ao;have cs:¬cap=16:=oo
   have b6:Hid (∀o:Qn,Qy w.heap.size w o-> ∀i,i<16->o.cell? ⟨b,off+16+i,none⟩=some (Qa .u8 (f (16+i)).toNat)):=λo hw i hi=>by
    rw[hw.cell (p:=⟨b,off+16+i,none⟩) bs,Nat.add_assoc];exact HC.out (16+i) oo
   go_wp2_with fail;go_region_with (first
    |(go_at_call 224;refine gv bX λw2 y=>?_;have ap:=Blk.keep (w:=wr.drew) M y;have b2:=QA (Below.drew F) (QB y F.size))
    |(go_at_call 219;refine(ab.out _ ?_).mono ?_;exact b6.out _ b2;rintro e C ⟨rfl,k3⟩;have ax:=Blk.keep ap k3;have b3:=QA b2 (QB k3 b2.size))
    |(go_at_call 223;refine gv bb λw4 k4=>?_;have ay:=Blk.keep ax k4;have b4:=QA b3 (QB k4 b3.size);have cc:=r8 (l:=G) ay (by rw[ao];rfl)))
   all_goals
    go_wp2;refine Qp (v:=Qc (Bs G)) ?_ rfl ⟨rfl,Qo b4 nR _⟩;exact rr Tf rfl rfl (ay.row _) cb
end Go.Proofs.YtclpbaokadfhhaaGreatDoor
