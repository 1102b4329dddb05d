import Derived.Deep.AppendSrc
import Derived.Lib.AppendZeros
import Derived.Test.YtclpbaokadfhhaaGreatDoorXr
section
set_option maxRecDepth 100000
set_option maxHeartbeats 1000000
open List renaming getElem?_eq_getElem->Qa,getD->Qc,getElem_of_mem->Qd,any_eq_false->Qe,getElem_mem->Qf,any_eq_true->Qg
namespace Go.Proofs.YtclpbaokadfhhaaGreatDoor
open Go.RowKit
def Ss(l:List ByteArray):Array Value:=(l.map Value.string).toArray
theorem xw(l:List ByteArray)(i:Nat)(h:i<l.length):(Ss l)[i]? =some (.string (l.getD i ⟨#[]⟩)):=by
 simp[Ss,Qc,Qa h]
def dH(limit:Nat)(l:List ByteArray):Bool:=l.any λs=>decide (limit<s.size)
theorem abM(b:Nat)(l:List ByteArray)(h:∀j,j<l.length->(l.getD j ⟨#[]⟩).size<=b):dH b l=false:=by
 rw[dH,Qe];intro x c;obtain⟨i,a,rfl⟩:=Qd c;have:=h i a;rw[show l.getD i ⟨#[]⟩=l[i] by simp[Qc,Qa a]]at this;simp;omega
theorem aab(b:Nat)(l:List ByteArray)(k:Nat)(a:k<l.length)(h:b<(l.getD k ⟨#[]⟩).size):dH b l=true:=by
 rw[dH,Qg];refine⟨l[k],Qf a,?_⟩;rw[show l.getD k ⟨#[]⟩=l[k] by simp[Qc,Qa a]]at h;simpa using h
theorem lV(b n a:Nat)(l:List ByteArray)(t:Nat)(w:World)(_:a<=1000000)(p:n=l.length)(A:n<=1000)(v:Blk w b (Ss l) t)
  (q:∀j,j<l.length->(l.getD j ⟨#[]⟩).size<=9223372036854775807):
  Calls Tryz.prog 27 #[.int .i64 a,.slice (some ⟨b,0,none⟩) n n] w λe w'=>e=.returned (.bool (dH a l))/\w'=w:=by
 have h:=Qh p;clear p;have u:=Qh q;clear q;go_enter Tryz.func27,Tryz.ntmps27;go_wp2;go_loop [9] (λi=> ∃k:Nat,k<=n/\i=.int .i64 k/\Hid (∀j,j<k->(l.getD j ⟨#[]⟩).size<=a)) (λi=>n-(intOf i).toNat)
 case atStart=>exact⟨0,oo,rfl,λj o=>oo⟩
 case round=>
  obtain⟨k,y,rfl,m⟩:=hrel;by_cases z:k<n
  .have d:=v.cell k;have f:k<l.length:=by have:=h.out;omega
   rw[xw _ _ f]at d;have r:=u.out k f;by_cases g:a<(l.getD k ⟨#[]⟩).size
   .have c:=Qh (aab a l k f g);generalize l.getD k ⟨#[]⟩=x at d r g;go_wp2;go_ret;exact⟨by rw[show dH a l=true from c.out];rfl,rfl⟩
   .have s:Hid (∀j,j<k+1->(l.getD j ⟨#[]⟩).size<=a):=λj o=>by
     by_cases e:j=k
     .subst e;omega
     .exact m.out j oo
    generalize l.getD k ⟨#[]⟩=x at d r g;go_wp2;go_round
    case rel=>exact⟨k+1,oo,gn,s⟩
    case measure=>simp[intOf];omega
  .have c:=Qh (abM a l (λj o=>m.out j (by have:=h.out;omega)));go_wp2;go_ret;exact⟨by rw[show dH a l=false from c.out];rfl,rfl⟩
theorem qo(b:Nat)(a:Qb):dH b [a]=decide (b<a.size):=by simp[dH]
theorem SL(c:Nat)(a b:Qb):dH c [a,b]=(decide (c<a.size)||decide (c<b.size)):=by simp[dH]
theorem LH(d:Nat)(a b c:Qb):dH d [a,b,c]=(decide (d<a.size)||(decide (d<b.size)||decide (d<c.size))):=by simp[dH]
def qp(l:List ByteArray):Bool:=l.any λs=>decide (¬s.size=32)
theorem VJ(l:List ByteArray)(h:∀j,j<l.length->(l.getD j ⟨#[]⟩).size=32):qp l=false:=by
 rw[qp,Qe];intro x b;obtain⟨i,a,rfl⟩:=Qd b;have:=h i a;rw[show l.getD i ⟨#[]⟩=l[i] by simp[Qc,Qa a]]at this;simp;omega
theorem TE(l:List ByteArray)(k:Nat)(a:k<l.length)(h:¬(l.getD k ⟨#[]⟩).size=32):qp l=true:=by
 rw[qp,Qg];refine⟨l[k],Qf a,?_⟩;rw[show l.getD k ⟨#[]⟩=l[k] by simp[Qc,Qa a]]at h;simpa using h
theorem FT(b n:Nat)(l:List ByteArray)(t:Nat)(w:World)(o:n=l.length)(A:n<=1000)(u:Blk w b (Ss l) t)
  (p:∀j,j<l.length->(l.getD j ⟨#[]⟩).size<=9223372036854775807):
  Calls Tryz.prog 24 #[.slice (some ⟨b,0,none⟩) n n] w λe w'=>e=.returned (.bool (qp l))/\w'=w:=by
 have g:=Qh o;clear o;have s:=Qh p;clear p;go_enter Tryz.func24,Tryz.ntmps24;go_wp2;go_loop [7] (λi=> ∃k:Nat,k<=n/\i=.int .i64 k/\Hid (∀j,j<k->(l.getD j ⟨#[]⟩).size=32)) (λi=>n-(intOf i).toNat)
 case atStart=>exact⟨0,oo,rfl,λj m=>oo⟩
 case round=>
  obtain⟨k,y,rfl,h⟩:=hrel;by_cases z:k<n
  .have c:=u.cell k;have d:k<l.length:=by have:=g.out;omega
   rw[xw _ _ d]at c;have q:=s.out k d;by_cases f:(l.getD k ⟨#[]⟩).size=32
   .have r:Hid (∀j,j<k+1->(l.getD j ⟨#[]⟩).size=32):=λj m=>by
     by_cases e:j=k
     .subst e;omega
     .exact h.out j oo
    generalize l.getD k ⟨#[]⟩=x at c q f;have v:(x.size:Int)=32:=oo
    go_wp2;go_round
    case rel=>exact⟨k+1,oo,gn,r⟩
    case measure=>simp[intOf];omega
   .have a:=Qh (TE l k d f);generalize l.getD k ⟨#[]⟩=x at c q f;have v:¬(x.size:Int)=32:=oo
    go_wp2;go_ret;exact⟨by rw[show qp l=true from a.out];rfl,rfl⟩
  .have a:=Qh (VJ l (λj m=>h.out j (by have:=g.out;omega)));go_wp2;go_ret;exact⟨by rw[show qp l=false from a.out];rfl,rfl⟩
theorem nI(s:Qb)(w:World)(b:s.size<=140737488351232):
  Calls Tryz.prog 24 #[.slice (some ⟨w.heap.size,0,none⟩) 1 1] (w.alloc (.cells (Ss [s]) 9)) λe w'=>e=.returned (.bool (decide (¬s.size=32)))/\w'=w.alloc (.cells (Ss [s]) 9):=by
 have:=FT w.heap.size 1 [s] 9 _ rfl oo (Blk.new w _ _) (by intro j a;match j,a with|0,_=>show s.size<=_;omega);rw[show qp [s]=decide (¬s.size=32) by simp[qp]]at this;exact this
theorem PG(s t:Qb)(w:World)(c:s.size<=140737488351232)(ht:t.size<=140737488351232):
  Calls Tryz.prog 24 #[.slice (some ⟨w.heap.size,0,none⟩) 2 2] (w.alloc (.cells (Ss [s,t]) 9)) λe w'=>e=.returned (.bool (decide (¬(s.size=32/\t.size=32))))/\w'=w.alloc (.cells (Ss [s,t]) 9):=by
 have:=FT w.heap.size 2 [s,t] 9 _ rfl oo (Blk.new w _ _) (by intro j b;match j,b with|0,_=>show s.size<=_;omega|1,_=>show t.size<=_;omega);rw[show qp [s,t]=decide (¬(s.size=32/\t.size=32)) by
  by_cases a:s.size=32<;>by_cases h2:t.size=32<;>simp[qp,a,h2]]at this
 exact this
end Go.Proofs.YtclpbaokadfhhaaGreatDoor
end
section
open Go renaming World->Qa,Value->Qc,run_append_grow_src->Qd,heap_alloc_new->Qe,growslice_fits->Qf,cell_of_row->Qg,grownCap_ge->Qi,TypeId->Qj,grownCap->Qk,run_firstCells_some->Qm,run_append_room_src->Qn,setCell_eq_setRow->Qo,setRow_heap->Qp
open List renaming getElem?_take_of_lt->Qq,take_append_of_le_length->Qt,getElem?_eq_some_iff->Qx,getElem?_append_left->Qy,take_of_length_le->Qz,length_singleton->QA,length_append->QB,getElem?_take->QC,getElem?_set->QD,ext_getElem?->QE
open Go.Proofs.Tryz renaming prog->QF,underlying25->QG
open Go.Value renaming string->QH,slice->QI,cells->QJ
open Go.Builtin renaming append_->QL,firstCells->QM,zeroCells->QN
open Nat renaming zero_add->QO,mul_one->QP,mul_le_mul_left->QQ,lt_of_lt_of_le->QR,le_of_lt->QT,le_of_eq->QU
open Array renaming getElem?_eq_some_iff->QV,toList_setIfInBounds->QW,toList_append->QY
open Go.World renaming setCells->QZ,frozen?->Q0
open Go.Addr renaming add->Q5
open Go.Src renaming ofSlice->Q6
namespace Go.Proofs.YtclpbaokadfhhaaGreatDoor
open Go.RowKit
structure But (q:Nat) (w w':Qa):Prop where
 below:Below q w w'
 other:∀b,b<w.heap.size->b≠q->w'.heap[b]? =w.heap[b]?
theorem But.refl(q:Nat)(w:Qa):But q w w:=⟨Below.refl _ _,λ_ _ _=>rfl⟩
theorem But.trans{q:Nat}{a b c:Qa}(h:But q a b)(k:But q b c):But q a c:=
 ⟨h.below.trans k.below,λi d e=>(k.other i (QR d h.below.size) e).trans (h.other i d e)⟩
theorem But.of{q:Nat}{w w':Qa}(h:Below w.heap.size w w')(c:q<=w.heap.size):But q w w':=⟨h.mono c,λb a _=>h.block b a⟩
theorem But.keep{q:Nat}{a b c:Qa}(h:But q a b)(k:Below b.heap.size b c)(d:q<=b.heap.size):But q a c:=h.trans (But.of k d)
theorem But.drew{q:Nat}{a w:Qa}(h:But q a w):But q a w.drew:=⟨h.below.drew,h.other⟩
theorem But.alloc{q:Nat}{a w:Qa}(h:But q a w)(b:q<=w.heap.size)(o:Obj):But q a (w.alloc o):=h.keep (bR.alloc nR o) b
theorem But.set{q:Nat}{a w:Qa}(h:But q a w)(i:Nat)(v:Qc):But q a (w.setCell ⟨q,i,none⟩ v):=
 h.trans ⟨bR.setCell (p:=⟨q,i,none⟩) nR v,λb _ c=>Below.heap_setCell w _ v b c⟩
theorem But.blk{q b t:Nat}{w w':Qa}{c:Array Qc}(h:But q w w')(a:Blk w b c t)(d:b≠q):Blk w' b c t:=by
 unfold Blk at a|-;rw[h.other b (QV.1 a).1 d];exact a
theorem Blk.setAt{w:Qa}{b t:Nat}{a cs':Array Qc}(h:Blk w b a t)(i:Nat)(v:Qc)(e:a.setIfInBounds i v=cs'):Blk (w.setCell ⟨b,i,none⟩ v) b cs' t:=by
 rw[h.set i v,e];exact h.row _
theorem Tryz.infoStrA:(QF.info? 9).map (λi=>(i.zero,i.size,i.bytes))=some (some (QH ⟨#[]⟩),1,16):=kr
theorem Oi(l:List ByteArray)(i:Nat):(Ss l)[i]? =l[i]?.map QH:=by simp[Ss]
def aM(R:List ByteArray)(k:Nat):ByteArray:=R.getD k ⟨#[]⟩
def SR(w:Qa)(b:Nat)(R:List ByteArray):Prop:=b<w.heap.size/\ ∀k,k<R.length->w.cell? ⟨b,k,none⟩=some (QH (aM R k))
theorem SR.keep{w w':Qa}{b:Nat}{R:List ByteArray}(h:SR w b R)(k:Below w.heap.size w w'):SR w' b R:=⟨QR h.1 k.size,λi a=>(k.cell (p:=⟨b,i,none⟩) h.1).trans (h.2 i a)⟩
theorem SR.alloc{w:Qa}{b:Nat}{R:List ByteArray}(h:SR w b R)(o:Obj):SR (w.alloc o) b R:=h.keep (bR.alloc nR o)
theorem SR.drewN{w:Qa}{b:Nat}{R:List ByteArray}(h:SR w b R)(n:Nat):SR (w.drewN n) b R:=h.keep (below_drewN bR n)
theorem SR.of{w:Qa}{b t:Nat}{R:List ByteArray}(h:Blk w b (Ss R) t):SR w b R:=⟨h.lt,λk a=>by rw[h.cell k,xw _ _ a];rfl⟩
def OwnG(w:Qa)(g:Nat)(v:Qc)(l:List ByteArray):Prop:=
 ∃(cap:Nat) (cur:Array Qc) (fz:Nat×Nat),v=QI (some ⟨g,0,none⟩) l.length cap/\w.heap[g]? =some (.cells cur 9 fz)/\(fz=(0,0)\/cur.size<=fz.1)/\cur.size=cap/\l.length<=cap/\cur.toList.take l.length=(Ss l).toList
theorem OwnG.lt{w:Qa}{g:Nat}{v:Qc}{l:List ByteArray}(h:OwnG w g v l):g<w.heap.size:=by
 obtain⟨cap,b,c,_,a,_⟩:=h;exact(QV.1 a).1
theorem OwnG.sr{w:Qa}{g:Nat}{v:Qc}{l:List ByteArray}(h:OwnG w g v l):SR w g l:=by
 have e:=h.lt;obtain⟨cap,b,c,_,d,_,f,i,ht⟩:=h;refine⟨e,λk a=>?_⟩;have h2:(b.toList.take l.length)[k]? =(Ss l).toList[k]? :=by rw[ht]
 rw[Qq a]at h2;rw[Qg w g k b _ c d,<-Array.getElem?_toList,h2];unfold aM;rw[List.getD_eq_getElem?_getD,List.getElem?_eq_getElem a];simp[Ss,a]
theorem OwnG.keep{w w':Qa}{g:Nat}{v:Qc}{l:List ByteArray}(h:OwnG w g v l)(k:w'.heap[g]? =w.heap[g]?):OwnG w' g v l:=by
 obtain⟨cap,a,b,c,d,h2⟩:=h;exact⟨cap,a,b,c,by rw[k,d],h2⟩
theorem TD{w:Qa}{g:Nat}{v:Qc}{l:List ByteArray}(h:OwnG w g v l)(x:Qb)(m:Nat)(N:w.cell? ⟨m,0,none⟩=some (QH x))(Q:l.length<1000000000):
  ∃v' w' k,(QL #[25,25] 25 #[v,QI (some ⟨m,0,none⟩) 1 1]).run QF w=.ok v' w'/\OwnG w' k v' (l++ [x])/\(k=g\/k=w.heap.size)/\But g w w':=by
 have A:=h.lt;obtain⟨i,s,p⟩:=Option.map_eq_some_iff.1 Tryz.infoStrA;simp only[Prod.mk.injEq]at p;obtain⟨O,d,F⟩:=p;obtain⟨cap,b,e,rfl,f,n,C,R,ht⟩:=h;have z:∀u∈ [QH x],u.oneCell'=true:=by intro u a;simp at a;subst a;rfl
 have q:Src QF i.size 25 (QI (some ⟨m,0,none⟩) 1 1) 1 [QH x] w:=by
  rw[d];refine Q6 w QG _ 1 1 _ rfl ?_ z;intro j u a;match j,a with
  |0,a=>simp at a;subst a;simpa [Q5]using N
 by_cases M:l.length+1<=cap
 .have G:w.cell? ⟨g,l.length,none⟩=b[l.length]? :=Qg w g _ b _ e f;have y:l.length<b.size:=oo
  have I:w.frozen? ⟨g,l.length,none⟩=false:=by
   simp only[Q0,f];rcases n with rfl|n
   .simp
   .simp;omega
  have o:=Qn (P:=QF) w 25 25 25 9 i QG s g 0 l.length cap _ 1 _ q M
   (by intro j c;match j,c with|0,_=>rw[d];simp[G,y])
   (by intro j c;match j,c with|0,_=>rw[d];simpa using I)
  refine⟨_,_,g,o,?_,Or.inl rfl,?_⟩
  .rw[d];have H:w.setCells g (0+l.length*1) [QH x]=w.setRow g (b.setIfInBounds l.length (QH x)):=by
    simp only[QZ,QO,QP];exact Qo w g _ b _ e _ f
   rw[H];refine⟨cap,_,e,ss,Qp w g b _ _ e f,by simpa using n,by simp[C],by simp;omega,?_⟩;apply QE
   intro j;rw[QB,QA,QC];by_cases c:j<l.length+1
   .rw[if_pos c];by_cases K:j=l.length
    .subst K;simp[Ss,y]
    .have t:j<l.length:=oo
     have h2:(b.toList.take l.length)[j]? =(Ss l)[j]? :=by rw[ht];simp
     rw[Qq t]at h2;have E:(Ss (l++ [x]))[j]? =(Ss l)[j]? :=by rw[Oi,Oi,Qy t]
     simp only[QW,QD];rw[if_neg oo];rw[show (Ss (l++ [x])).toList[j]? =(Ss (l++ [x]))[j]? by simp,E,<-h2]
   .rw[if_neg c];simp[Ss];omega
  .rw[d];simp only[QZ,QO,QP];exact(But.refl _ _).set _ _
 .have L:(QM i.size l.length (QI (some ⟨g,0,none⟩) l.length cap)).run QF w.drew=.ok (Ss l).toList.toArray w.drew:=by
   rw[d];refine Qm w.drew 1 l.length _ l.length cap _ (by simp[Ss]) ?_;intro j u a;have c:j<l.length:=by
    have:=(Qx.1 a).1;simpa [Ss]using this
   have B:(⟨g,0,none⟩:Addr).add j=⟨g,j,none⟩:=by unfold Q5;split<;>simp_all
   rw[B];have h2:(b.toList.take l.length)[j]? =(Ss l).toList[j]? :=by rw[ht]
   rw[Qq c,a]at h2;show w.cell? _=_
   rw[Qg w g j b _ e f];simpa using h2
  have o:=Qd (P:=QF) w 25 25 25 9 i _ QG s O (some ⟨g,0,none⟩) l.length cap (Ss l).toList L _ 1 _ q oo oo
   (by rw[F];exact Qf oo oo)
  refine⟨_,_,w.heap.size,o,?_,Or.inr rfl,(But.refl _ _).drew.alloc (QT A) _⟩;have J:=Qi w (l.length+1) cap 9;refine⟨Qk w (l.length+1) cap 9,_,(0,0),ss,Qe w.drew _,.inl rfl,?_,by simpa using J,?_⟩
  .simp[Ss,QN,QJ];omega
  .have D:(l++ [x]).length=l.length+1:=ss
   have r:((Ss l).toList++ [QH x]).length=l.length+1:=by simp[Ss]
   rw[D,QY,Qt (QU r.symm),Qz (QU r)];simp[Ss]
theorem append_nil{w:Qa}(x:Qb)(b:Nat)(n:w.cell? ⟨b,0,none⟩=some (QH x)):
  ∃v' w',(QL #[25,25] 25 #[QI none 0 0,QI (some ⟨b,0,none⟩) 1 1]).run QF w=.ok v' w'/\OwnG w' w.heap.size v' [x]/\Below w.heap.size w w':=by
 obtain⟨i,k,c⟩:=Option.map_eq_some_iff.1 Tryz.infoStrA;simp only[Prod.mk.injEq]at c;obtain⟨o,e,h⟩:=c;have f:∀u∈ [QH x],u.oneCell'=true:=by intro u a;simp at a;subst a;rfl
 have g:Src QF i.size 25 (QI (some ⟨b,0,none⟩) 1 1) 1 [QH x] w:=by
  rw[e];refine Q6 w QG _ 1 1 _ rfl ?_ f;intro j u a;match j,a with
  |0,a=>simp at a;subst a;simpa [Q5]using n
 have l:(QM i.size 0 (QI none 0 0)).run QF w.drew=.ok ([]:List Qc).toArray w.drew:=by
  rw[e];rfl
 have m:=Qd (P:=QF) w 25 25 25 9 i _ QG k o none 0 0 [] l _ 1 _ g oo oo
  (by rw[h];exact Qf oo oo)
 refine⟨_,_,m,?_,bR.drew.alloc nR _⟩;have d:=Qi w (0+1) 0 9;refine⟨Qk w (0+1) 0 9,_,(0,0),ss,Qe w.drew _,.inl rfl,?_,by simpa using d,?_⟩
 .simp only[QO]at d;simp[QN,QJ];omega
 .simp[Ss]
theorem Ca{P:Program}{b:Array Oper}{rest:List Oper}{o:Oper}{a:Act}{w:Qa}{Q:Exit->Act->Qa->Prop}(e:o.guard=none)(s x:Operand)(t:Qj)
  (f:o.op=.call {callee:=.builtin .append,args:=#[s,x],argTypes:=#[t,t]}) (c:Qj) (j:o.type=c) (v u:Qc) (i:a.eval s=v) (k:a.eval x=u) (v':Qc) (w':Qa)
  (g:(QL #[t,t] c #[v,u]).run P w=.ok v' w') (h:wpList P b Q rest (a.put o.dst v') w'):wpList P b Q (o::rest) a w:=by
 refine wpList_plain e λK d=>?_
 unfold Oper.wp execOp;simp only[f,j,resolve,invoke,builtin,Sem.run_bind,Sem.run_pure,Result.andThen_ok,List.map_toArray,List.map_cons,List.map_nil,i,k,g];exact d _ _ h
def OwnV(t:Qj)(w:Qa)(g:Nat)(v:Qc)(l:List Qc):Prop:=
 ∃(cap:Nat) (cur:Array Qc) (fz:Nat×Nat),v=QI (some ⟨g,0,none⟩) l.length cap/\w.heap[g]? =some (.cells cur t fz)/\(fz=(0,0)\/cur.size<=fz.1)/\cur.size=cap/\l.length<=cap/\cur.toList.take l.length=l
theorem OwnV.lt{t:Qj}{w:Qa}{g:Nat}{v:Qc}{l:List Qc}(h:OwnV t w g v l):g<w.heap.size:=by
 obtain⟨cap,b,c,_,a,_⟩:=h;exact(QV.1 a).1
theorem OwnV.keep{t:Qj}{w w':Qa}{g:Nat}{v:Qc}{l:List Qc}(h:OwnV t w g v l)(k:w'.heap[g]? =w.heap[g]?):OwnV t w' g v l:=by
 obtain⟨cap,a,b,c,d,h2⟩:=h;exact⟨cap,a,b,c,by rw[k,d],h2⟩
theorem adl{ts t:TypeId}{i:TypeInfo}{z:Value}(hu:Tryz.prog.underlying ts=some (.slice t))(hi:Tryz.prog.info? t=some i)(hz:i.zero=some z)(hs:i.size=1)(hz1:z.cells.size=1)(hby:i.bytes<=24)
  {w:World} {g:Nat} {v:Value} {l:List Value} (h:OwnV t w g v l) (x:Value) (hx1:x.oneCell'=true) (g1:Nat) (hx:w.cell? ⟨g1,0,none⟩=some x) (hl:l.length<2000000000000):
  ∃v' w' g',(Builtin.append_ #[ts,ts] ts #[v,.slice (some ⟨g1,0,none⟩) 1 1]).run Tryz.prog w=.ok v' w'/\OwnV t w' g' v' (l++ [x])/\(g'=g\/g'=w.heap.size)/\But g w w':=by
 have adU:=h.lt;obtain⟨cap,cur,fz,rfl,hh,hfz,aee,hlc,ht⟩:=h;have adS:∀u∈ [x],u.oneCell'=true:=by intro u hu;simp at hu;subst hu;exact hx1
 have aed:Src Tryz.prog i.size ts (.slice (some ⟨g1,0,none⟩) 1 1) 1 [x] w:=by
  rw[hs];refine Src.ofSlice w hu _ 1 1 _ rfl ?_ adS;intro j u hu;match j,hu with
  |0,hu=>simp at hu;subst hu;simpa [Addr.add]using hx
 by_cases hroom:l.length+1<=cap
 .have hc:w.cell? ⟨g,l.length,none⟩=cur[l.length]? :=cell_of_row w g _ cur _ fz hh;have hlt:l.length<cur.size:=oo
  have hf:w.frozen? ⟨g,l.length,none⟩=false:=by
   simp only[World.frozen?,hh];rcases hfz with rfl|hfz
   .simp
   .simp;omega
  have hr:=run_append_room_src (P:=Tryz.prog) w ts ts ts t i hu hi g 0 l.length cap _ 1 _ aed hroom
   (by intro j hj;match j,hj with|0,_=>rw[hs];simp[hc,hlt])
   (by intro j hj;match j,hj with|0,_=>rw[hs];simpa using hf)
  refine⟨_,_,g,hr,?_,Or.inl rfl,?_⟩
  .rw[hs];have he:w.setCells g (0+l.length*1) [x]=w.setRow g (cur.setIfInBounds l.length x):=by
    simp only[World.setCells,Nat.zero_add,Nat.mul_one];exact setCell_eq_setRow w g _ cur _ fz _ hh
   rw[he];refine⟨cap,_,fz,ss,setRow_heap w g cur _ _ fz hh,by simpa using hfz,by simp[aee],by simp;omega,?_⟩;apply List.ext_getElem?
   intro j;rw[List.length_append,List.length_singleton,List.getElem?_take];by_cases hj:j<l.length+1
   .rw[if_pos hj];by_cases hj2:j=l.length
    .subst hj2;simp[hlt]
    .have hj3:j<l.length:=oo
     have h2:(cur.toList.take l.length)[j]? =l[j]? :=by rw[ht]
     rw[List.getElem?_take_of_lt hj3]at h2;simp only[Array.toList_setIfInBounds,List.getElem?_set];rw[if_neg oo,List.getElem?_append_left hj3,<-h2]
   .rw[if_neg hj];simp;omega
  .rw[hs];simp only[World.setCells,Nat.zero_add,Nat.mul_one];exact(But.refl _ _).set _ _
 .have hold:(Builtin.firstCells i.size l.length (.slice (some ⟨g,0,none⟩) l.length cap)).run Tryz.prog w.drew=.ok l.toArray w.drew:=by
   rw[hs];refine run_firstCells_some w.drew 1 l.length _ l.length cap _ ss ?_;intro j u hu;have hj:=(List.getElem?_eq_some_iff.1 hu).1;have adW:(⟨g,0,none⟩:Addr).add j=⟨g,j,none⟩:=by unfold Addr.add;split<;>simp_all
   rw[adW];have h2:(cur.toList.take l.length)[j]? =l[j]? :=by rw[ht]
   rw[List.getElem?_take_of_lt hj,hu]at h2;show w.cell? _=_
   rw[cell_of_row w g j cur _ fz hh];simpa using h2
  have hr:=run_append_grow_src (P:=Tryz.prog) w ts ts ts t i _ hu hi hz (some ⟨g,0,none⟩) l.length cap l hold _ 1 _ aed oo oo
   (growslice_fits (by have:=Nat.mul_le_mul_left (l.length+1) hby;omega) (by have:=Nat.mul_le_mul_left (l.length+1) hby;omega))
  refine⟨_,_,w.heap.size,hr,?_,Or.inr rfl,(But.refl _ _).drew.alloc (Nat.le_of_lt adU) _⟩;have hge:=grownCap_ge w (l.length+1) cap t;refine⟨grownCap w (l.length+1) cap t,_,(0,0),ss,heap_alloc_new w.drew _,.inl rfl,?_,by simpa using hge,?_⟩
  .simp[Builtin.zeroCells,hz1];omega
  .have e1:(l++ [x]).length=l.length+1:=ss
   rw[e1,Array.toList_append,List.take_append_of_le_length ss,List.take_of_length_le ss]
theorem XP{ts t:TypeId}{i:TypeInfo}{z:Value}(hu:Tryz.prog.underlying ts=some (.slice t))(hi:Tryz.prog.info? t=some i)(hz:i.zero=some z)(hs:i.size=1)(hz1:z.cells.size=1)(hby:i.bytes<=24)
  {w:World} (x:Value) (hx1:x.oneCell'=true) (g1:Nat) (hx:w.cell? ⟨g1,0,none⟩=some x):
  ∃v' w',(Builtin.append_ #[ts,ts] ts #[.slice none 0 0,.slice (some ⟨g1,0,none⟩) 1 1]).run Tryz.prog w=.ok v' w'/\OwnV t w' w.heap.size v' [x]/\Below w.heap.size w w':=by
 have adS:∀u∈ [x],u.oneCell'=true:=by intro u hu;simp at hu;subst hu;exact hx1
 have aed:Src Tryz.prog i.size ts (.slice (some ⟨g1,0,none⟩) 1 1) 1 [x] w:=by
  rw[hs];refine Src.ofSlice w hu _ 1 1 _ rfl ?_ adS;intro j u hu;match j,hu with
  |0,hu=>simp at hu;subst hu;simpa [Addr.add]using hx
 have hold:(Builtin.firstCells i.size 0 (.slice none 0 0)).run Tryz.prog w.drew=.ok ([]:List Value).toArray w.drew:=by
  rw[hs];rfl
 have hr:=run_append_grow_src (P:=Tryz.prog) w ts ts ts t i _ hu hi hz none 0 0 [] hold _ 1 _ aed oo oo
  (growslice_fits oo oo)
 refine⟨_,_,hr,?_,bR.drew.alloc nR _⟩;have hge:=grownCap_ge w (0+1) 0 t;refine⟨grownCap w (0+1) 0 t,_,(0,0),ss,heap_alloc_new w.drew _,.inl rfl,?_,by simpa using hge,?_⟩
 .simp only[Nat.zero_add]at hge;simp[Builtin.zeroCells,hz1];omega
 .simp
end Go.Proofs.YtclpbaokadfhhaaGreatDoor
end
section
set_option maxRecDepth 100000
set_option maxHeartbeats 1000000
open Go.Value renaming string->Qa,int->Qc,slice->Qd,tuple->Qe
open Go.Proofs.Tryz renaming prog->Qf,ntmps30->Qg,func30->Qi,underlying55->Qj,ntmps126->Qk,ntmps91->Qm,ntmps89->Qn,func126->Qo,func91->Qp,func89->Qq
open List renaming take_of_length_le->Qt,take->Qx,take_append_of_le_length->Qy,map->Qz,getD->QA
open ByteArray renaming size_append->QB
open UInt8 renaming ofNat->QC
open Go.Obj renaming cells->QD
open Go.IntKind renaming u8->QE,i64->QF
open Go renaming World->QG
namespace Go.Proofs.YtclpbaokadfhhaaGreatDoor
open Go.RowKit
open Blk renaming new->QH
def jA(l:List UInt8)(c:UInt8)(k:Nat):List UInt8:=(l.take k).map (· ^^^c)++l.drop k
theorem oh(l:Qu)(c:UInt8)(k:Nat):(jA l c k).length=l.length:=by
 simp[jA];omega
theorem Dl(l:Qu)(c:UInt8)(k:Nat)(h:k<l.length):(jA l c k).getD k 0=l.getD k 0:=by
 have a:min k l.length=k:=oo
 simp[jA,QA,List.getElem?_append,a]
theorem Bv(l:Qu)(c:UInt8)(k:Nat)(h:k<l.length):(jA l c k).set k (l.getD k 0^^^c)=jA l c (k+1):=by
 have e:min k l.length=k:=oo
 have d:((l.take k).map (· ^^^c)).length=k:=by simp[e]
 have a:(l.take (k+1)).map (· ^^^c)=(l.take k).map (· ^^^c)++ [l[k]^^^c]:=by rw[List.take_succ_eq_append_getElem h,List.map_append];rfl
 have b:l.getD k 0=l[k]:=by simp[QA,List.getElem?_eq_getElem h]
 unfold jA;rw[a,b,List.append_assoc,List.set_append,if_neg oo,d,Nat.sub_self,List.drop_eq_getElem_cons h];rfl
theorem Zr(w:QG):Sem.run Qf (zeroValue 219) w=.ok (.agg (Bs (aq 128))) w:=kr
def so(l:List UInt8)(c:UInt8):List UInt8:=jA (l++aq (128-l.length)) c 128
theorem Xz(s:Qb)(c:Int)(C:UInt8)(e:c=(C.toNat:Int))(w:QG)(r:s.size<=128):
  Rw 187 #[Qa s,Qc QE c] w (Qa ⟨(so s.data.toList C).toArray⟩):=by
 have n:s.data.toList.length=s.size:=ss
 have g:(s.data.toList++aq (128-s.size)).length=128:=by simp[fD];omega
 have u:=Zr;have h:=Lib.run_copy_row_string (P:=Qf) (w.alloc (QD (Bs (aq 128)) 219)) 55 9 3 5 w.heap.size 0 128 128 s (Bs (aq 128)) 219 Qj Tryz.infoByte1 (heap_alloc_new w _) oo (by rw[rY,fD];omega);rw[NV s 128,World.setRow_alloc_new]at h;have f:Hid (so s.data.toList C=jA (s.data.toList++aq (128-s.size)) C 128):=by unfold so;rw[n];rfl
 generalize s.data.toList++aq (128-s.size)=b at h g f;generalize so s.data.toList C=M at f|-;have a:=QH w (Bs b) 219;have d:Below w.heap.size w (w.alloc (QD (Bs b) 219)):=bR.alloc nR _;subst e;go_enter Tryz.func187,Tryz.ntmps187;go_wp2;generalize w.alloc (QD (Bs b) 219)=y at a d|-;go_loopw [10] (λi wr=> ∃k:Nat,k<=128/\i=Qc QF k/\Blk wr w.heap.size (Bs (jA b C k)) 219/\Below w.heap.size w wr) (λi _=>128-(intOf i).toNat)
 case atStart=>exact⟨0,oo,rfl,a,d⟩
 case round=>
  clear a d;obtain⟨k,p,rfl,a,d⟩:=hrel;by_cases q:k<128
  .have e:=a.cell k;rw[pY _ _ (by rw[oh];omega),Dl _ _ _ oo]at e;have o:=a.frozen k;have v:(k:Int)<128:=oo
   generalize j:b.getD k 0=x at e;have l:=Qh j;clear j;go_wp2;go_roundw
   case rel=>
    refine⟨k+1,oo,gn,?_,d.setCell nR _⟩;rw[a.set,za,tn,<-show b.getD k 0=x from l.out,Bv _ _ _ oo];exact a.row _
   case measure=>simp[intOf];omega
  .have m:k=128:=oo
   subst m;have t:=gc (cap:=128) a 128 (by rw[oh,g]);go_wp2;go_ret;exact⟨by rw[show M=_ from f.out];rfl,d⟩
def fQ(K:Nat->BitVec 64)(s:ByteArray):ByteArray:=⟨(aj K s.data.toList).toArray⟩
def il(s:ByteArray)(c:UInt8):ByteArray:=⟨(so s.data.toList c).toArray⟩
theorem fR(K:Nat->BitVec 64)(s:Qb):(fQ K s).size=64:=by
 show(aj K s.data.toList).toArray.size=64
 simp[aj,pV]
theorem lj(s:Qb)(c:UInt8)(h:s.size<=128):(il s c).size=128:=by
 have:s.data.toList.length=s.size:=ss
 show(so s.data.toList c).toArray.size=128
 simp[so,oh,fD];omega
theorem KC(K:Nat->BitVec 64)(s:Qb)(w:QG)(b:s.size<=140737488351232)(a:Tab K w):
  Rw 113 #[Qa s] w (Qa (fQ K s)):=Hw K s w b a
theorem Hz(s:Qb)(c:Int)(C:UInt8)(a:c=(C.toNat:Int))(w:QG)(b:s.size<=128):
  Rw 187 #[Qa s,Qc QE c] w (Qa (il s C)):=Xz s c C a w b
def Cw(K:Nat->BitVec 64)(key data:ByteArray):ByteArray:=fQ K (il key 92++fQ K (il key 54++data))
def n7(K:Nat->BitVec 64)(key:ByteArray):ByteArray:=if 128<key.size then fQ K key else key
def iW(K:Nat->BitVec 64)(key data:ByteArray):ByteArray:=Cw K (n7 K key) data
theorem rC(K:Nat->BitVec 64)(a data:Qb):(iW K a data).size=64:=fR _ _
theorem Dn(K:Nat->BitVec 64)(a:Qb):(n7 K a).size<=128:=by
 unfold n7;split
 .rw[fR];omega
 .omega
theorem KD(K:Nat->BitVec 64)(a data:Qb)(w:QG)(z:a.size<=1000000)(y:data.size<=1000000)(f:Tab K w):
  Rw 126 #[Qa a,Qa data] w (Qa (iW K a data)):=by
 have b:=Dn K a;by_cases o:128<a.size
 .have e:n7 K a=fQ K a:=by unfold n7;rw[if_pos o]
  unfold iW;rw[e]at b|-;clear e;have r:=lj (fQ K a) 92 b;have p:=lj (fQ K a) 54 b;have q:=fR K (il (fQ K a) 54++data);have s:(128:Int)<a.size:=oo
  go_enter Qo,Qk;go_wp2_with fail;refine mo (KC K a _ oo f) λA g=>?_;go_wp2_with fail;refine mo (Hz _ _ 92 rfl _ b) λt k=>?_;go_wp2_with fail;refine mo (Hz _ _ 54 rfl _ b) λu l=>?_;have h:=(g.trans (k.mono g.size));have c:=(h.trans (l.mono h.size));have i:=f.below c;go_wp2_with fail;refine mo (KC K _ _ (by rw[QB];omega) i) λv m=>?_;have d:=(c.trans (m.mono c.size));have j:=f.below d;go_wp2_with fail;refine mo (KC K _ _ (by rw[QB,fR];omega) j) λx n=>?_;go_wp2;go_ret;exact⟨rfl,d.trans (n.mono d.size)⟩
 .have e:n7 K a=a:=by unfold n7;rw[if_neg o]
  unfold iW;rw[e]at b|-;clear e;have r:=lj a 92 b;have p:=lj a 54 b;have q:=fR K (il a 54++data);have s:¬(128:Int)<a.size:=oo
  have g:=Below.refl w.heap.size w;go_enter Qo,Qk;go_wp2_with fail;refine mo (Hz _ _ 92 rfl _ b) λt k=>?_;go_wp2_with fail;refine mo (Hz _ _ 54 rfl _ b) λu l=>?_;have h:=(g.trans (k.mono g.size));have c:=(h.trans (l.mono h.size));have i:=f.below c;go_wp2_with fail;refine mo (KC K _ _ (by rw[QB];omega) i) λv m=>?_;have d:=(c.trans (m.mono c.size));have j:=f.below d;go_wp2_with fail;refine mo (KC K _ _ (by rw[QB,fR];omega) j) λx n=>?_;go_wp2;go_ret;exact⟨rfl,d.trans (n.mono d.size)⟩
def dW(K:Nat->BitVec 64)(by_ purpose:ByteArray):Nat->ByteArray
 |0=>⟨#[]⟩
 |i+1=>iW K by_ (dW K by_ purpose i++purpose++⟨#[QC (i+1)]⟩)
def fP(K:Nat->BitVec 64)(by_ purpose:ByteArray):Nat->List UInt8
 |0=>[]
 |i+1=>fP K by_ purpose i++(dW K by_ purpose (i+1)).data.toList
theorem oH(K:Nat->BitVec 64)(b p:Qb)(i:Nat):(fP K b p i).length=64*i:=by
 induction i with
 |zero=>rfl
 |succ i a=>
  have:(dW K b p (i+1)).data.toList.length=64:=by
   have:=rC K b (dW K b p i++p++⟨#[QC (i+1)]⟩);simpa [dW]using this
  simp only[fP,List.length_append,a,this];omega
theorem XC(n:Nat)(h:n<=281474976710656)(w:QG):
  (Instr.makeSlice 55 (Qc QF 0) (Qc QF (n:Int))).run Qf w=.ok (Qd (some ⟨w.heap.size,0,none⟩) 0 n) (w.alloc (QD (Bs (aq n)) 5)):=by
 obtain⟨i,c,a⟩:=Option.map_eq_some_iff.1 Tryz.infoByte;simp only[Prod.mk.injEq]at a;obtain⟨e,d,b⟩:=a;have:=run_make (P:=Qf) w 55 5 i _ Qj c e QF QF 0 n oo oo (by rw[b];omega) oo;rw[this,d,<-HJ];simp[Value.cells]
def na(K:Nat->BitVec 64)(b p:ByteArray)(n i:Nat):List UInt8:=(fP K b p i).take n++aq (n-64*i)
theorem Ah(K:Nat->BitVec 64)(b p:Qb)(n i:Nat):(na K b p n i).length=n:=by
 simp[na,oH,fD];omega
theorem Bt(K:Nat->BitVec 64)(b p:Qb)(i:Nat):(dW K b p i).size<=64:=by
 cases i with
 |zero=>exact Nat.zero_le _
 |succ i=>rw[dW,rC];omega
theorem Ag(K:Nat->BitVec 64)(b p:Qb)(i:Nat):(dW K b p (i+1)).size=64:=by
 rw[dW,rC]
theorem Sx(i:Nat)(h:i<255):(#[Qc QE ((i:Int)+1)]:Array Value)=Bs [QC (i+1)]:=by
 have:((i+1)%256)=i+1:=oo
 simp[Bs,this]
theorem Xf{w:QG}{g m c t:Nat}{l:Qu}(d:Blk w g (Bs l) t)(p:Qu)(f:c<=p.length)(h:m+c<=l.length):
  (storeCells ⟨g,m,none⟩ (Qx c (Qz (λb:UInt8=>Qc QE (b.toNat:Int)) p))).run Qf w=.ok () (w.setRow g (Bs (l.take m++p.take c++l.drop (m+c)))):=by
 have a:(Qx c (Qz (λb:UInt8=>Qc QE (b.toNat:Int)) p)).length=c:=by simp;omega
 have:=run_storeCells_at Qf g m t (Qx c (Qz (λb:UInt8=>Qc QE (b.toNat:Int)) p)) 0 (Bs l) w d (by rw[a,rY];omega) (by
  intro v e;have:=List.mem_of_mem_take e;simp only[List.mem_map]at this;obtain⟨x,_,rfl⟩:=this;rfl)
 rw[this,a];congr 2
 simp[Bs,List.map_take,List.map_drop]
theorem MA(K:Nat->BitVec 64)(b p a:Qb)(n i c:Nat)(e:c=min 64 (n-64*i))(l:64*i<n)(j:a.size=64)(k:fP K b p (i+1)=fP K b p i++a.data.toList):
  (na K b p n i).take (64*i)++a.data.toList.take c++(na K b p n i).drop (64*i+c)=na K b p n (i+1):=by
 have f:=oH K b p i;have m:a.data.toList.length=64:=by simpa using j
 have d:Qx n (fP K b p i)=fP K b p i:=Qt oo;have g:Qx c a.data.toList=Qx (n-64*i) a.data.toList:=by
  by_cases h:n-64*i<=64
  .rw[e,Nat.min_eq_right h]
  .rw[e,Nat.min_eq_left oo,Qt oo,Qt oo]
 unfold na;rw[k,d,g,Qy oo,Qt oo,List.take_append,d,f,List.drop_append,List.drop_of_length_le oo,List.nil_append,f];congr 1
 unfold aq;rw[List.drop_replicate];congr 1
 omega
theorem KP(K:Nat->BitVec 64)(b p:Qb)(i d:Nat):(fP K b p (i+d)).take (64*i)=fP K b p i:=by
 induction d with
 |zero=>exact Qt (by rw[oH];omega)
 |succ d a=>rw[<-Nat.add_assoc,fP,Qy (by rw[oH];omega),a]
theorem Ek(K:Nat->BitVec 64)(b p:Qb)(n i:Nat)(c:i<=16)(a:n<=64*i):na K b p n i=(fP K b p 16).take n:=by
 have h:=KP K b p i (16-i);rw[show i+(16-i)=16 by omega]at h;unfold na;rw[<-h,List.take_take,Nat.min_eq_left a,show n-64*i=0 by omega];simp[aq]
theorem Tq(K:Nat->BitVec 64)(j h a:Qb)(n:Nat)(w:QG)(W:j.size<=100000)(h2:h.size<=100000)(X:a.size<=100000)(hn:n<=1000)(B:Tab K w):
  Rw 59 #[Qa j,Qa h,Qa a,Qc QF n] w (Qa ⟨((fP K (iW K h j) a 16).take n).toArray⟩):=by
 have ag:=XC n oo;have u:=(KD K h j w oo oo B);have M:=rC K h j;generalize iW K h j=b at u M|-;have I:=Qh u;clear u;go_enter Tryz.func59,Tryz.ntmps59;go_wp2_with fail;refine I.out.mono ?_;rintro e l ⟨rfl,s⟩;have g:=QH l (Bs (aq n)) 5;have f:Below w.heap.size w (l.alloc (QD (Bs (aq n)) 5)):=s.alloc s.size _;have N:=s.size;go_wp2_with fail;generalize l.alloc (QD (Bs (aq n)) 5)=w2 at g f|-;generalize l.heap.size=v at g N|-;go_loopw [10,11,12] (λd p q wr=> ∃i m:Nat,Hid (m=min (64*i) n)/\i<=16/\m<=n/\d=Qd (some ⟨v,0,none⟩) m n/\p=Qa (dW K b a i)/\q=Qc QE ((i:Int)+1)/\Blk wr v (Bs (na K b a n i)) 5/\Below w.heap.size w wr) (λd _ _ _=>n-pM d)
 case atStart=>exact⟨0,0,(by show _=_;omega),oo,oo,rfl,rfl,rfl,(by rw[show na K b a n 0=aq n by simp[na,fP]];exact g),f⟩
 case round=>
  clear g f;obtain⟨i,m,x,P,ah,rfl,rfl,rfl,g,f⟩:=hrel;by_cases ad:m<n
  .have Q:m=64*i:=by have:=x.out;omega
   have ab:i<16:=oo
   have i0:(m:Int)<n:=oo
   subst Q;have an:=Bt K b a i;have A:=Sx i oo;have k:=gc (cap:=1) (QH wr (Bs [QC (i+1)]) 5) 1 rfl;rw[<-A]at k;clear A;have y:Hid (dW K b a (i+1)=iW K b (dW K b a i++a++⟨[QC (i+1)].toArray⟩)):=rfl;have H:([QC (i+1)].toArray).size<=1:=ss
   generalize [QC (i+1)].toArray=L at k y H;have Z:(⟨L⟩:ByteArray).size<=1:=H;have T:(dW K b a i++a).size<=100064:=by rw[QB];omega
   go_wp2_with fail;have t:Below w.heap.size w (wr.alloc (QD #[Qc QE ((i:Int)+1)] 5)):=f.alloc f.size _;refine mo (KD K _ _ _ oo (by rw[QB];omega) (B.below t)) λw3 E=>?_;have C:=Ag K b a i;rw[<-show dW K b a (i+1)=_ from y.out];have F:=(g.alloc _).keep E;have O:=t.trans (E.mono t.size);have z:Hid (fP K b a (i+1)=fP K b a i++(dW K b a (i+1)).data.toList):=rfl;generalize D:dW K b a (i+1)=r at C z|-;have J:=Qh D;clear D;obtain⟨c,G⟩:∃c,c=min 64 (n-64*i):=⟨_,rfl⟩
   have q1:(min 64 ((n:Int)-64*(i:Int))).toNat=c:=oo
   have q2:min c 64=c:=oo
   have q3:c<=64:=oo
   have q4:64*i+c<=n:=oo
   have o:=Qh G;clear G;have S:=Xf (c:=c) (m:=64*i) F r.data.toList (by simp;omega) (by rw[Ah];omega);rw[MA K b a r n i c o.out oo C z.out]at S;go_wp2;go_roundw
   case rel=>
    refine⟨i+1,64*i+c,?_,oo,oo,rfl,?_,?_,F.row _,below_setRow O oo _⟩
    .have:=o.out;show _=_;omega
    .rw[show dW K b a (i+1)=r from J.out]
    .go_num
   case measure=>simp[pM];have:=o.out;omega
  .have R:m=n:=oo
   subst R;have k:=gc (cap:=m) g m (Ah K b a m i).symm;rw[Ek K b a m i P (by have:=x.out;omega)]at k;go_wp2;go_ret;exact⟨rfl,f⟩
def fp(K:Nat->BitVec 64)(s:ByteArray):ByteArray×Int:=if s.size<=10000 then(fQ K s,0)else (⟨#[]⟩,1)
def iz(K:Nat->BitVec 64)(k s:ByteArray):ByteArray×Int:=if k.size<=10000/\s.size<=10000 then(iW K k s,0)else (⟨#[]⟩,1)
def l8(K:Nat->BitVec 64)(secret salt purpose:ByteArray)(n:Nat):ByteArray:=⟨((fP K (iW K salt secret) purpose 16).take n).toArray⟩
def dZ(K:Nat->BitVec 64)(secret salt purpose:ByteArray)(n:Int):ByteArray×Int:=
 if secret.size<=10000/\salt.size<=10000/\purpose.size<=10000/\0<=n/\n<=1000 then(l8 K secret salt purpose n.toNat,0)else (⟨#[]⟩,1)
theorem UI(K:Nat->BitVec 64)(s:Qb)(w:QG)(k:s.size<=140737488351232)(f:Tab K w):
  Rw 89 #[Qa s] w (Qe #[Qa (fp K s).1,Qc QF (fp K s).2]):=by
 have d:Below w.heap.size w (w.alloc (QD (Ss [s]) 9)):=bR.alloc nR _;have c:Hid (Calls Qf 27 #[Qc QF 10000,Qd (some ⟨w.heap.size,0,none⟩) 1 1] (w.alloc (QD (Ss [s]) 9)) λe w'=>e=.returned (.bool (dH 10000 [s]))/\w'=w.alloc (QD (Ss [s]) 9)):=
  lV w.heap.size 1 10000 [s] 9 _ oo rfl oo (QH w _ _) (by intro j i;match j,i with|0,_=>show s.size<=_;omega)
 by_cases h:s.size<=10000
 .have a:fp K s=(fQ K s,0):=by unfold fp;rw[if_pos h]
  have b:dH 10000 [s]=false:=by rw[qo];simp;omega
  rw[b]at c;rw[a];clear a b;go_enter Qq,Qn;go_wp2_with fail;refine c.out.mono ?_;rintro e w' ⟨rfl,rfl⟩;go_wp2_with fail;refine mo (KC K s _ k (f.below d)) λl g=>?_;go_wp2;go_ret2;exact⟨rfl,d.trans (g.mono d.size)⟩
 .have a:fp K s=(⟨#[]⟩,1):=by unfold fp;rw[if_neg h]
  have b:dH 10000 [s]=true:=by rw[qo];simp;omega
  rw[b]at c;rw[a];clear a b;go_enter Qq,Qn;go_wp2_with fail;refine c.out.mono ?_;rintro e w' ⟨rfl,rfl⟩;go_wp2;go_ret2;exact⟨rfl,d⟩
theorem aaH(K:Nat->BitVec 64)(k s:Qb)(w:QG)(n:k.size<=140737488351232)(o:s.size<=140737488351232)(f:Tab K w):
  Rw 91 #[Qa k,Qa s] w (Qe #[Qa (iz K k s).1,Qc QF (iz K k s).2]):=by
 have d:Below w.heap.size w (w.alloc (QD (Ss [k,s]) 9)):=bR.alloc nR _;have c:Hid (Calls Qf 27 #[Qc QF 10000,Qd (some ⟨w.heap.size,0,none⟩) 2 2] (w.alloc (QD (Ss [k,s]) 9)) λe w'=>e=.returned (.bool (dH 10000 [k,s]))/\w'=w.alloc (QD (Ss [k,s]) 9)):=
  lV w.heap.size 2 10000 [k,s] 9 _ oo rfl oo (QH w _ _) (by intro j i;match j,i with|0,_=>show k.size<=_;omega|1,_=>show s.size<=_;omega)
 by_cases h:k.size<=10000/\s.size<=10000
 .have a:iz K k s=(iW K k s,0):=by unfold iz;rw[if_pos h]
  have b:dH 10000 [k,s]=false:=by rw[SL];simp;omega
  rw[b]at c;rw[a];clear a b;obtain⟨l,m⟩:=h;go_enter Qp,Qm;go_wp2_with fail;refine c.out.mono ?_;rintro e w' ⟨rfl,rfl⟩;go_wp2_with fail;refine mo (KD K k s _ oo oo (f.below d)) λp g=>?_;go_wp2;go_ret2;exact⟨rfl,d.trans (g.mono d.size)⟩
 .have a:iz K k s=(⟨#[]⟩,1):=by unfold iz;rw[if_neg h]
  have b:dH 10000 [k,s]=true:=by rw[SL];simp;omega
  rw[b]at c;rw[a];clear a b;go_enter Qp,Qm;go_wp2_with fail;refine c.out.mono ?_;rintro e w' ⟨rfl,rfl⟩;go_wp2;go_ret2;exact⟨rfl,d⟩
theorem GZ(K:Nat->BitVec 64)(c b a:Qb)(n:Nat)(w:QG)(d:c.size<=100000)(h2:b.size<=100000)(e:a.size<=100000)(g:n<=1000)(f:Tab K w):
  Rw 59 #[Qa c,Qa b,Qa a,Qc QF n] w (Qa (l8 K c b a n)):=
 Tq K c b a n w d h2 e g f
theorem UJ(K:Nat->BitVec 64)(a b c:Qb)(n:Int)(w:QG)(v:a.size<=140737488351232)(h2:b.size<=140737488351232)(x:c.size<=140737488351232)(r:Tab K w):
  Rw 30 #[Qa a,Qa b,Qa c,Qc QF n] w (Qe #[Qa (dZ K a b c n).1,Qc QF (dZ K a b c n).2]):=by
 have g:Below w.heap.size w (w.alloc (QD (Ss [a,b,c]) 9)):=bR.alloc nR _;have f:Hid (Calls Qf 27 #[Qc QF 10000,Qd (some ⟨w.heap.size,0,none⟩) 3 3] (w.alloc (QD (Ss [a,b,c]) 9)) λe w'=>e=.returned (.bool (dH 10000 [a,b,c]))/\w'=w.alloc (QD (Ss [a,b,c]) 9)):=
  lV w.heap.size 3 10000 [a,b,c] 9 _ oo rfl oo (QH w _ _) (by intro j t;match j,t with|0,_=>show a.size<=_;omega|1,_=>show b.size<=_;omega|2,_=>show c.size<=_;omega)
 by_cases h:a.size<=10000/\b.size<=10000/\c.size<=10000
 .have i:dH 10000 [a,b,c]=false:=by rw[LH];simp;omega
  rw[i]at f;clear i;by_cases o:0<=n/\n<=1000
  .have d:dZ K a b c n=(l8 K a b c n.toNat,0):=by unfold dZ;rw[if_pos ⟨h.1,h.2.1,h.2.2,o⟩]
   rw[d];clear d;obtain⟨y,z,A⟩:=h;obtain⟨k,B⟩:=o;obtain⟨m,rfl⟩:=Int.eq_ofNat_of_zero_le k;rw[Int.toNat_natCast];have p:decide ((m:Int)<0)=false:=ss
   have q:decide ((1000:Int)<(m:Int))=false:=by simp;omega
   go_enter Qi,Qg;go_wp2_with fail;refine f.out.mono ?_;rintro e w' ⟨rfl,rfl⟩;go_wp2_with fail;refine mo (GZ K a b c m _ oo oo oo oo (r.below g)) λC s=>?_;go_wp2;go_ret2;exact⟨rfl,g.trans (s.mono g.size)⟩
  .have d:dZ K a b c n=(⟨#[]⟩,1):=by unfold dZ;rw[if_neg (λh=>o h.2.2.2)]
   rw[d];clear d;by_cases k:n<0
   .have p:decide (n<0)=true:=by simpa using k
    go_enter Qi,Qg;go_wp2_with fail;refine f.out.mono ?_;rintro e w' ⟨rfl,rfl⟩;go_wp2;go_ret2;exact⟨rfl,g⟩
   .have p:decide (n<0)=false:=by simpa using k
    have q:decide (1000<n)=true:=by simp;omega
    have u:1000<n:=oo
    go_enter Qi,Qg;go_wp2_with fail;refine f.out.mono ?_;rintro e w' ⟨rfl,rfl⟩;go_wp2;go_ret2;exact⟨rfl,g⟩
 .have d:dZ K a b c n=(⟨#[]⟩,1):=by unfold dZ;rw[if_neg (λl=>h ⟨l.1,l.2.1,l.2.2.1⟩)]
  have i:dH 10000 [a,b,c]=true:=by rw[LH];simp;omega
  rw[i]at f;rw[d];clear d i;go_enter Qi,Qg;go_wp2_with fail;refine f.out.mono ?_;rintro e w' ⟨rfl,rfl⟩;go_wp2;go_ret2;exact⟨rfl,g⟩
end Go.Proofs.YtclpbaokadfhhaaGreatDoor
end
