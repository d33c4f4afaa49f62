import Derived.Test.YtkdbheidpdjimaaGreatDoorK5
import Derived.RangeFuncNested
import Derived.RangeFuncBound
import Derived.RangeFuncCalls
import Derived.RangeFuncLeaves
import Derived.Shelf.Abstract
import Derived.Shelf.AbstractIn
import Derived.Shelf.RegionOpen
import Derived.OwnWalkIn
import Derived.TacticsInMore
import Derived.LoopNIn
import Derived.LoopIn
import Derived.Maps.RangeWalk
import Derived.Laws.IdiomRangeMap
import Derived.Test.YtkdbheidpdjimaaGreatDoortT0
set_option linter.unusedVariables false
set_option maxHeartbeats 8000000
set_option maxRecDepth 100000
namespace Go.Proofs.YtkdbheidpdjimaaGreatDoor
open Proofs.Tryz Go.RowKit Go.Maps Go.Sort Go.Shelf
variable {S X b j n:Nat} {A B w:World}
attribute [local go_sem] Oper.semAt_some
theorem qP (s:BY):encStr s.data.toList=.string s:=by
 unfold encStr
 congr 1
theorem gG {k:Nat} (h:k<n):(List.finRange n).take (k+1)=(List.finRange n).take k++[⟨k,h⟩]:=by
 rw [pq,y9 (by simpa using h)];simp
def fB (W:World) (S j:Nat):Option Nat:=(W.cell? ⟨S,j,none⟩).bind Value.ownBlock
structure Fz (S j X:Nat) (W W':World):Prop where
 size:W.heap.size<=W'.heap.size
 same:∀ k o,W.heap[k]?=some o->(o.isCells=true\/o.isWalk=true)->(∀ cur fr,o≠.cells cur X fr)->k≠S->fB W S j≠some k->W'.heap[k]?=some o
 fld:fB W' S j=fB W S j\/∃ q,fB W' S j=some q/\W.heap.size<=q
theorem Fz.refl (S j X:Nat) (W:World):Fz S j X W W:=⟨Y9 _,fun _ _ h _ _ _ _=>h,.inl rfl⟩
theorem Fz.trans {C:World} (h:Fz S j X A B) (k:Fz S j X B C):Fz S j X A C:=by
 refine ⟨Q7 h.size k.size,fun i o ho hc b c hf=>?_,?_⟩
 · have hi:=(D_.1 ho).1;refine k.same i o (h.same i o ho hc b c hf) hc b c ?_;rcases h.fld with e | ⟨q,e,a⟩
   · rw [e];exact hf
   · rw [e];intro d;have:=Q9 d;omega
 · rcases k.fld with e | ⟨q,e,a⟩
   · rw [e];exact h.fld
   · exact .inr ⟨q,e,Q7 h.size a⟩
theorem Fz.cell (h:Fz S j X A B) (hf:fB A S j=none) {p:Addr} (a:p.block≠S) {t:TypeId} (hT:Gf A p.block t) (ht:t≠X):B.cell? p=A.cell? p:=by
 obtain ⟨cur,fr,e⟩:=hT;have b:=h.same _ _ e (.inl rfl) (fun cur' fr' c=>by cases c;exact ht rfl) a (by rw [hf];simp);unfold World.cell?;rw [e,b]
theorem Fz.map (h:Fz S j X A B) (hf:fB A S j=none) {k:TypeId} {R:Value->Option (DataW Value×List MemPlace)} {b n:Nat} {D:DataW Value} (c:b≠S) (hm:A.ownsMap prog k R b n D):B.ownsMap prog k R b n D:=by
 obtain ⟨es,d,a,r⟩:=hm;exact ⟨es,d,h.same b _ a (.inr rfl) (fun _ _ e=>by cases e) c (by rw [hf];simp),r⟩
theorem yA {B e:Nat} {va:OA} {xs:List Value} (h:w.ownsRow B e 1 (.slice va n b) n xs):n=0\/∃ g,va=some ⟨g,0,none⟩/\B<=g/\g<w.heap.size/\Gf w g e/\∀ k,k<n->w.cell? ⟨g,k,none⟩=some (xs.getD k undef):=by
 have c:=h;rcases h.2 with ⟨hv,h0⟩ | ⟨g,cap,cur,hv,d,a,_⟩
 · exact .inl h0
 · simp only [Gy] at hv;obtain ⟨rfl,_,rfl⟩:=hv;refine .inr ⟨g,rfl,d,(D_.1 a).1,⟨cur,(0,0),a⟩,fun k hk=>?_⟩;have hx:k<xs.length:=by have:=h.1;omega
   rw [c.cellAt k O0];simp only [List.getD,y9 hx,Ac]
theorem yT (l:List (ByteArray×Value)) {k:Nat} (h:k<l.length):(l.map fun p=>Value.string p.1).getD k undef=.string (l[k]'h).1:=by
 simp only [List.getD,Zr,y9 h,Fv,Ac]
theorem zV (l:List Value) {k:Nat} (h:k<l.length):((List.range l.length).map fun i:Nat=>Value.int .i64 (i:Int)).getD k undef=.int .i64 (k:Int):=by
 simp only [List.getD,Zr,List.getElem?_range h,Fv,Ac]
theorem eY (m:Nat):AnyZ.SortsIn prog Tryz.sortedA_ren Fence.wide m:=
 ⟨fun blk off a ss W hH c b=>callsIn_wide.2 (AnyM.slices_Sort_string Tryz.sortA blk off a ss W hH c b),
  fun p a W=>callsIn_wide.2 (AnyM.slices_Sort_string_none Tryz.sortA p a W)⟩
theorem a0T (S j a b B:Nat) (l:List (ByteArray×Value)) (w:World) (hA:Asc l) (hks:∀ p∈l,p.1.size<=maxLen) (hl:l.length<=1000) (u:a<w.heap.size) (hm:w.cell? ⟨a,0,none⟩=some (.map (some b))) (s:w.ownsMap prog 9 Y_ b B (mapD l)) (hTm:Gf w a 184) (hSB:a≠S) (hSw:S<w.heap.size) (hbS:b≠S) (O:fB w S j=none):
 SeqStopsK Fence.wide 10 prog 182 #[.pointer (some ⟨a,0,none⟩)] (fun i:Fin l.length=>#[(l[i.1]'i.2).2]) (Fz S j 192) (fun xs=>xs=List.finRange l.length) (fun _=>True) l.length w:=fun L J Jx W f hJ hJx R h0=>by
 have I:=(f.cell (p:=⟨a,0,none⟩) u).trans hm;have q:=z_ s f s.lt;have K:fB W S j=none:=by unfold fB;rw [f.cell (p:=⟨S,j,none⟩) hSw];exact O
 have V:=m_ u f.size;have hbl:=q.lt;clear hm s O;have D:SeqGives Fence.wide 6 prog 229 #[.pointer (some ⟨W.heap.size,0,none⟩)] encStr (fun ss=>ss.Perm (strKeys (mapD l))) (Maps.size (mapD l)) (W.alloc (.cells #[.map (some b)] 184)):=
  AnyZ.keys_gives (ρ:=Tryz.keysA_ren) { Tryz.keysA with } Fence.wide _ trivial rfl O0 W.heap.size b B (mapD l) _ I4 I4 (q.alloc _)
 have Y:∀ n W,CallsIn Fence.wide 9 prog 184 #[.map n] W fun e w'=>e=.returned (.func (.func 229) #[] #[.pointer (some ⟨W.heap.size,0,none⟩)])/\w'=W.alloc (.cells #[.map n] 184):=fun n W=>AnyZ.keys_in Tryz.keysA Fence.wide 9 trivial rfl n W;have x:=AnyZ.sorted_in Tryz.sortedA Fence.wide 9 trivial trivial trivial trivial rfl O0 (eY _) (enters_of func228 J3 rfl) 229 #[.pointer (some ⟨W.heap.size,0,none⟩)] trivial (enters_of func229 J3 rfl) _ _ (by rw [Eb];unfold maxLen;omega) (by rw [Eb];omega) _ D;change CallsIn _ _ prog 183 _ _ _ at x;have X:CallsIn Fence.wide 9 prog 183 #[.func (.func 229) #[] #[.pointer (some ⟨W.heap.size,0,none⟩)]] (W.alloc (.cells #[.map (some b)] 184)) fun e w'=>∃ va m,e=.returned (vL va l.length m)/\Hid (w'.ownsRow (W.heap.size+1) 9 1 (vL va l.length m) l.length (l.map fun p=>Value.string p.1))/\Bw W w':=by
  refine x.mono ?_;rintro e w' ⟨v,ss,rfl,U,c,hnil,d⟩;have hlen:ss.length=l.length:=by rw [U.length_eq];rw [xB];simp
  rw [wH hA U] at c;rw [xu,show (encStr∘fun p:BY×Value=>p.1.data.toList)=fun p=>Value.string p.1 from funext fun p=>qP p.1] at c;rw [hlen] at c;have E:=H9 c (base':=W.heap.size+1) I4;obtain ⟨va,m,rfl⟩:=U9 E;exact ⟨va,m,rfl,E,((Z4 _ W).alloc x9 _).trans (d.mono I4)⟩
 have hfK:Fence.wide.fn 184:=trivial;have hfS:Fence.wide.fn 183:=trivial;clear x D;refine callsIn_of_wp func182 rfl trivial ?_ rfl;simp only [ntmps182,Wx,A_,Xe,Nat.reduceAdd,Nat.reduceSub,Hy,Yy,JA,Ry,M_,Uf]
 gi_wp2_with (first
  | (gi_at_call 184;refine (Y _ _).mono ?_;rintro e w' ⟨rfl,rfl⟩)
  | (gi_at_call 183;refine X.mono ?_;rintro e y ⟨va,m,rfl,c,d⟩))
 clear Y X;have hJ1:=hJ [] W y none h0 (Tf d) (fun _ e=>by cases e);have hT1:=(hTm.below f u).below d V;have hm1:=(d.cell (p:=⟨a,0,none⟩) V).trans I;have H:=z_ q d hbl;have N:fB y S j=none:=by unfold fB;rw [d.cell (p:=⟨S,j,none⟩) (Nat.lt_of_lt_of_le hSw f.size)];exact K
 have P:=yA c.out;have hSW1:=m_ hSw f.size;have HO:=U0 H;have A:=U0 N;have HC:=U0 P;clear H N P c q K I
 gi_loopw [9] (fun i wr=>∃ k:Nat,k<=l.length/\i=vI k/\J ((List.finRange l.length).take k) wr/\Fz S j 192 y wr) (fun i _=>l.length - (Go.RowKit.intOf i).toNat)
 case atStart=>exact ⟨0,D5 _,rfl,hJ1,Fz.refl _ _ _ _⟩
 case round=>
  obtain ⟨k,hk,rfl,t,r⟩:=hrel;by_cases h:k<l.length
  · rcases HC.out with h0' | ⟨g,Z,hgW,hgw,hTg,hcell⟩
    · omega
    subst Z;have hgS:g≠S:=O0;have Q:=(r.cell A.out (p:=⟨g,k,none⟩) hgS hTg O6).trans (hcell k h);have hb3:=(r.cell A.out (p:=⟨a,0,none⟩) hSB hT1 O6).trans hm1;have F:=r.map A.out hbS HO.out;have o:=oI (k:=(l[k]'h).1) (z:=.agg #[vE,vO,vE]) F underlying184 J3 (hks _ (Bj h));rw [Oo hA (k:=(l[k]'h).1) (v:=(l[k]'h).2) (Bj h)] at o;rw [Ac] at o;rw [yT l h] at Q;obtain ⟨fn,tmps,assign,body,C,hR⟩:=R _ ⟨k,h⟩ wr t (by rw [B_,List.length_finRange];omega);dsimp only at C;clear R F;generalize hgk:(l[k]'h).1=kk at o Q;generalize hvk:(l[k]'h).2=vk at o C
    gi_wp2
    refine hR.mono ?_;rintro e W3 (⟨rfl,hJ3,hk3⟩ | ⟨rfl,hJx3⟩)
    · gi_wp2
      go_roundw
      case rel=>exact ⟨k+1,O0,by go_num,by rw [gG h];exact hJ3,r.trans hk3⟩
      case measure=>simp [Go.RowKit.intOf];omega
    · gi_wp2
      refine P7 (results_none rfl _ _ _) rfl ?_;exact ⟨⟨_,rfl⟩,.inr ⟨_,trivial,hJx3⟩⟩
  · obtain rfl:k=l.length:=O0
    gi_wp2
    go_end0
    exact ⟨⟨_,rfl⟩,.inl ⟨_,rfl,by rw [u_ I4] at t;exact t⟩⟩
theorem WW (m:Nat):AnyZI.SortsIn prog Tryz.sortedB_ren Fence.wide m:=
 ⟨fun blk off a ss W hH c b=>callsIn_wide.2 (AnyM.slices_Sort_int Tryz.sortB blk off a ss W hH c b),
  fun p a W=>callsIn_wide.2 (AnyM.slices_Sort_int_none Tryz.sortB p a W)⟩
theorem a1n (S j a b A:Nat) (l:List Value) (w:World) (hl:l.length<=1000) (t:a<w.heap.size) (hm:w.cell? ⟨a,0,none⟩=some (.map (some b))) (r:w.ownsMap prog 3 Y_ b A (intD l)) (hTm:Gf w a 185) (hSB:a≠S) (hSw:S<w.heap.size) (hbS:b≠S) (O:fB w S j=none):
 SeqStopsK Fence.wide 10 prog 185 #[.pointer (some ⟨a,0,none⟩)] (fun i:Fin l.length=>#[(l[i.1]'i.2)]) (Fz S j 113) (fun xs=>xs=List.finRange l.length) (fun _=>True) l.length w:=fun L J Jx W f hJ hJx Q h0=>by
 have I:=(f.cell (p:=⟨a,0,none⟩) t).trans hm;have o:=z_ r f r.lt;have K:fB W S j=none:=by unfold fB;rw [f.cell (p:=⟨S,j,none⟩) hSw];exact O
 have U:=m_ t f.size;have hbl:=o.lt;clear hm r O;have C:SeqGives Fence.wide 6 prog 232 #[.pointer (some ⟨W.heap.size,0,none⟩)] encZ (fun ss=>ss.Perm (intKeys (intD l))) (Maps.size (intD l)) (W.alloc (.cells #[.map (some b)] 185)):=
  AnyZI.keys_gives (ρ:=Tryz.keysB_ren) { Tryz.keysB with } Fence.wide _ trivial rfl O0 W.heap.size b A (intD l) _ I4 I4 (o.alloc _)
 have X:∀ n W,CallsIn Fence.wide 9 prog 187 #[.map n] W fun e w'=>e=.returned (.func (.func 232) #[] #[.pointer (some ⟨W.heap.size,0,none⟩)])/\w'=W.alloc (.cells #[.map n] 185):=fun n W=>AnyZI.keys_in Tryz.keysB Fence.wide 9 trivial rfl n W;have u:=AnyZI.sorted_in Tryz.sortedB Fence.wide 9 trivial trivial trivial trivial rfl O0 (WW _) (enters_of func231 J3 rfl) 232 #[.pointer (some ⟨W.heap.size,0,none⟩)] trivial (enters_of func232 J3 rfl) _ _ (by rw [Ll];unfold maxLen;omega) (by rw [Ll];omega) _ C;change CallsIn _ _ prog 186 _ _ _ at u;have V:CallsIn Fence.wide 9 prog 186 #[.func (.func 232) #[] #[.pointer (some ⟨W.heap.size,0,none⟩)]] (W.alloc (.cells #[.map (some b)] 185)) fun e w'=>∃ va m,e=.returned (vL va l.length m)/\Hid (w'.ownsRow (W.heap.size+1) 3 1 (vL va l.length m) l.length ((List.range l.length).map fun i:Nat=>Value.int .i64 (i:Int)))/\Bw W w':=by
  refine u.mono ?_;rintro e w' ⟨v,ss,rfl,R,c,hnil,d⟩;have hlen:ss.length=l.length:=by rw [R.length_eq];rw [bC];simp
  rw [QG R] at c;rw [xu] at c;rw [hlen] at c;have D:=H9 c (base':=W.heap.size+1) I4;obtain ⟨va,m,rfl⟩:=U9 D;exact ⟨va,m,rfl,D,((Z4 _ W).alloc x9 _).trans (d.mono I4)⟩
 have hfK:Fence.wide.fn 187:=trivial;have hfS:Fence.wide.fn 186:=trivial;clear u C;refine callsIn_of_wp func185 rfl trivial ?_ rfl;simp only [ntmps185,Wx,A_,Xe,Nat.reduceAdd,Nat.reduceSub,Hy,Yy,JA,Ry,M_,Uf]
 gi_wp2_with (first
  | (gi_at_call 187;refine (X _ _).mono ?_;rintro e w' ⟨rfl,rfl⟩)
  | (gi_at_call 186;refine V.mono ?_;rintro e x ⟨va,m,rfl,c,d⟩))
 clear X V;have hJ1:=hJ [] W x none h0 (Tf d) (fun _ e=>by cases e);have hT1:=(hTm.below f t).below d U;have Z:=(d.cell (p:=⟨a,0,none⟩) U).trans I;have H:=z_ o d hbl;have N:fB x S j=none:=by unfold fB;rw [d.cell (p:=⟨S,j,none⟩) (Nat.lt_of_lt_of_le hSw f.size)];exact K
 have P:=yA c.out;have hSW1:=m_ hSw f.size;have HO:=U0 H;have y:=U0 N;have HC:=U0 P;clear H N P c o K I
 gi_loopw [9] (fun i wr=>∃ k:Nat,k<=l.length/\i=vI k/\J ((List.finRange l.length).take k) wr/\Fz S j 113 x wr) (fun i _=>l.length - (Go.RowKit.intOf i).toNat)
 case atStart=>exact ⟨0,D5 _,rfl,hJ1,Fz.refl _ _ _ _⟩
 case round=>
  obtain ⟨k,hk,rfl,s,q⟩:=hrel;by_cases h:k<l.length
  · rcases HC.out with h0' | ⟨g,Y,hgW,hgw,hTg,hcell⟩
    · omega
    subst Y;have hgS:g≠S:=O0;have hc3:=(q.cell y.out (p:=⟨g,k,none⟩) hgS hTg O6).trans (hcell k h);have hb3:=(q.cell y.out (p:=⟨a,0,none⟩) hSB hT1 O6).trans Z;have F:=q.map y.out hbS HO.out;have E:=pO (k:=k) (z:=.agg #[vE,vN,vE]) F underlying185 J3 O0 h;rw [show l.getD k undef=l[k]'h from by simp only [List.getD,y9 h,Ac]] at E;rw [zV l h] at hc3;obtain ⟨fn,tmps,assign,body,B,hR⟩:=Q _ ⟨k,h⟩ wr s (by rw [B_,List.length_finRange];omega);dsimp only at B;clear Q F;generalize hvk:(l[k]'h)=vk at E B
    gi_wp2
    refine hR.mono ?_;rintro e W3 (⟨rfl,hJ3,hk3⟩ | ⟨rfl,hJx3⟩)
    · gi_wp2
      go_roundw
      case rel=>exact ⟨k+1,O0,by go_num,by rw [gG h];exact hJ3,q.trans hk3⟩
      case measure=>simp [Go.RowKit.intOf];omega
    · gi_wp2
      refine P7 (results_none rfl _ _ _) rfl ?_;exact ⟨⟨_,rfl⟩,.inr ⟨_,trivial,hJx3⟩⟩
  · obtain rfl:k=l.length:=O0
    gi_wp2
    go_end0
    exact ⟨⟨_,rfl⟩,.inl ⟨_,rfl,by rw [u_ I4] at s;exact s⟩⟩
open Go.RowKit Go.Maps
open Go.WideElems (Fit rd rg pl rd_val rd_key)
def QW (p:BY×Int×ByteArray):Value:=.agg #[.string p.1,.int .i64 p.2.1,.string p.2.2]
open Classical in
noncomputable def SS (v:Value):Option (DataW Value×List MemPlace):=if ∃ p,v=QW p then some (.held v,[]) else none
theorem lK {v:Value} {y:DataW Value×List MemPlace} (h:SS v=some y):(∃ p,v=QW p)/\y=(.held v,[]):=by
 unfold SS at h;split at h
 · rename_i a;exact ⟨a,(Q9 h).symm⟩
 · cases h
theorem JQ {f:List (ByteArray×Value)} (h:w.ownsMap prog 9 Y_ b n (mapD f)) (hf:∀ p∈f,∃ q,p.2=QW q):w.ownsMap prog 9 SS b n (mapD f):=by
 obtain ⟨es,clock,s,F,m,g⟩:=h;have l:∀ x∈es.toList,∀ z,Y_ x.val=some z->SS x.val=some z:=fun x hx z c=>by
  obtain ⟨y,d⟩:=F.reads x hx;have hm:rg prog 9 Y_ x∈(es.toList.map (rg prog 9 Y_)).foldr DataW.insert []:=mem_sorted.2 (fF hx);have t:f.map eS=(es.toList.map (rg prog 9 Y_)).foldr DataW.insert []:=by
   have:=g;unfold mapD at this;exact DataW.map.inj this
  rw [<- t] at hm;obtain ⟨p,r,e⟩:=Jl.1 hm;have A:rg prog 9 Y_ x=y:=by unfold rg;rw [d];rfl
  obtain ⟨i,a,k⟩:=rd_val d;have j:i=(.held x.val,[]):=by unfold Y_ at a;exact (Option.some.inj a).symm
  have v:DataW.held p.2=DataW.held x.val:=by
   have:=P5 Prod.snd (e.trans A);rw [k,j] at this;exact this
  have u:p.2=x.val:=by injection v
  obtain ⟨q,o⟩:=hf p r;unfold Y_ at c;unfold SS;rw [G8 ⟨q,u▸o⟩];exact c
 have h1:=World.ownsMap_of_fit (R:=SS) s F l;rw [<- g] at h1;exact h1.mono m
theorem a0Q (a b i ns:Nat) (g:DataW Value) (f:List (ByteArray×Value)) (w:World) (hd:w.ownsMap prog 9 Y_ a i g) (y:w.ownsMap prog 9 Y_ b ns (mapD f)) (hf:∀ p∈f,∃ q,p.2=QW q) (R:a≠b) (hroom:i+Maps.size (mapD f)<=maxLen):
 Calls prog 181 #[.map (some a),.map (some b)] w fun e w'=>e=.returned (.tuple #[])/\w'.ownsMap prog 9 Y_ a (i+Maps.size (mapD f)) (Lib.mergeD g (mapD f))/\w.grownBy w' (some a):=by
 have o:=JQ y hf;generalize mapD f=d at*;have hbd:=hd.lt;have hbs:=o.lt;go_enter func181,ntmps181
 go_wp2_with (first
  | (at_range;refine wpList_range_own _ rfl _ 184 rfl 9 192 Rt underlying184 SS b ns _ rfl o ?_;intro w0 N F y)
  | go_in)
 go_frame
 go_loopw [8] (fun _ wr=>∃ (n:Lit->Bool) (l:Nat) (t:DataW Value),wr.ranges prog 9 SS b w.heap.size ns d n l/\l<=Maps.size d/\
  wr.ownsMap prog 9 Y_ a (i+(Maps.size d - l)) t/\Merged t g d n/\w.grownBy wr (some a))
  (fun _ wr=>wr.rangeLeft b w.heap.size)
 case atStart=>
  exact ⟨_,_,g,N,Y9 _,(hd.kept F I4).mono O0,merged_start g d,F.but _⟩
 case round=>
  obtain ⟨n,l,t,A,hcs,k,H,B⟩:=hrel
  go_wp2_with (first
   | (at_next;refine wpList_next_ranges _ rfl _ rfl 9 Rt SS id QW (fun key _ _=>⟨key,rfl⟩) (fun v _ h=>(lK h).1) b w.heap.size ns _ _ _ rfl A ?_ ?_)
   | go_in)
  · intro W U;go_wp2
    go_end0
    subst W;have e:=merged_eq Rt.one H U (k.canon Rt) (hd.canonK Rt) (o.canonK Rt);subst e;exact ⟨rfl,by simpa using k,B⟩
  · intro x ca s cb kl m yp I Y r hlx hv X L S E hs1 V;have u:=(lK hv).2;have Q:=k.kept E (fun e=>by have:=Q9 e;omega);have D:=dJ I (.cells #[vS ca,vI s,vS cb] 192) none;have P:=U0 (Q.alloc (.cells #[vS ca,vI s,vS cb] 192));have K:=U0 (L.kept D I4 I4);have J:Hid (Y_ (.agg #[vS ca,vI s,vS cb])=some (m,[])):=by show Y_ _=_;rw [show m=_ from P5 Prod.fst u];rfl
    simp only [QW] at V r ⊢;clear u hv
    go_wp2_with (first
     | (at_mapUpdate;refine wpList_mapUpdate_own _ rfl _ _ _ 184 rfl 9 192 Rt underlying184 Y_ a _ _ rfl P.out O0 _ _ _ rfl rfl r m [] J.out ?_;intro w2 O C;go_frame)
     | go_in)
    have z:=K.out.kept C (fun e=>R (Q9 e).symm) (fun e=>by have:=Q9 e;omega);go_roundw
    case rel=>
     exact ⟨_,Y,_,z,O0,O.mono O0,merged_step H k.isMap (Rt.key r) X,((B.andThen E (fun j c=>.inl (by cases c;exact Y9 _))).andThen D (fun j c=>by cases c)).andThen C (fun j c=>.inr c)⟩
    case measure=>rw [z.left_eq,A.left_eq];exact S
open Go.RowKit
end Go.Proofs.YtkdbheidpdjimaaGreatDoor
namespace Go.Proofs
open Go.Shelf
def Tryz.lays146_ren:Go.Shelf.Ren:=⟨fun | 146=>171 | 221=>214 | 268=>248 | 138=>192 | 143=>238 | 195=>236 | 197=>264 | 218=>237 | 219=>246 | 260=>291 | 217=>260 | 225=>261 | 224=>262 | 267=>263 | 266=>289 | 314=>290 | n => n, fun | 9=>9 | 3=>3 | 31=>22 | 4=>4 | 0=>0 | 105=>370 | 21=>21 | 5=>5 | 46=>290 | 119=>401 | 139=>404 | 138=>403 | 146=>338 | 51=>337 | n => n, fun | 1=>5 | 3=>9 | 4=>10 | n=>n⟩
theorem Tryz.lays146:Go.Proofs.Lays.n146 prog Tryz.lays146_ren:={
 mixed:=J3
 f138:=func192.trans (P5 some J3)
 f143:=func238.trans (P5 some J3)
 f146:=func171.trans (P5 some J3)
 f195:=func236.trans (P5 some J3)
 f197:=func264.trans (P5 some J3)
 f217:=func260.trans (P5 some J3)
 f218:=func237.trans (P5 some J3)
 f219:=func246.trans (P5 some J3)
 f221:=func214.trans (P5 some J3)
 f224:=func262.trans (P5 some J3)
 f225:=func261.trans (P5 some J3)
 f260:=func291.trans (P5 some J3)
 f266:=func289.trans (P5 some J3)
 f267:=func263.trans (P5 some J3)
 f268:=func248.trans (P5 some J3)
 f314:=func290.trans (P5 some J3)
 t0:=underlying0
 a0:=Tryz.isAgg0
 z0:=Tryz.sizeOf0
 v0:=Tryz.zeroValue0
 t3:=underlying3
 a3:=Tryz.isAgg3
 z3:=Tryz.sizeOf3
 v3:=Tryz.zeroValue3
 t4:=underlying4
 a4:=Tryz.isAgg4
 z4:=Tryz.sizeOf4
 v4:=Tryz.zeroValue4
 t5:=underlying5
 a5:=Tryz.isAgg5
 z5:=Tryz.sizeOf5
 v5:=Tryz.zeroValue5
 t9:=underlying9
 a9:=Tryz.isAgg9
 z9:=Tryz.sizeOf9
 v9:=Tryz.zeroValue9
 t21:=underlying21
 a21:=Tryz.isAgg21
 z21:=Tryz.sizeOf21
 v21:=Tryz.zeroValue21
 t31:=underlying22
 a31:=Tryz.isAgg22
 z31:=Tryz.sizeOf22
 v31:=Tryz.zeroValue22
 t46:=underlying290
 a46:=Tryz.isAgg290
 z46:=Tryz.sizeOf290
 v46:=Tryz.zeroValue290
 t51:=underlying337
 a51:=Tryz.isAgg337
 z51:=Tryz.sizeOf337
 v51:=Tryz.zeroValue337
 t105:=underlying370
 a105:=Tryz.isAgg370
 z105:=Tryz.sizeOf370
 v105:=Tryz.zeroValue370
 t119:=underlying401
 a119:=Tryz.isAgg401
 z119:=Tryz.sizeOf401
 t138:=underlying403
 a138:=Tryz.isAgg403
 z138:=Tryz.sizeOf403
 v138:=Tryz.zeroValue403
 t139:=underlying404
 a139:=Tryz.isAgg404
 z139:=Tryz.sizeOf404
 v139:=Tryz.zeroValue404
 t146:=underlying338
 a146:=Tryz.isAgg338
 z146:=Tryz.sizeOf338
 v146:=Tryz.zeroValue338
 g1:=J3
 g3:=J3
 g4:=by kernel_rfl }
theorem Tryz.strings_Split (s a:BY) (m:Int) (w:World) (b:s.size<4294967281) (hm:w.cell? ⟨5,0,none⟩=some (.int .i64 m)) (h1:1<=a.size):
 Calls prog 171 #[.string s,.string a] w fun e w'=>
  e=.returned (.slice (some ⟨w.heap.size,0,none⟩) (Lib.countB s a+1) (Lib.countB s a+1))/\w'=w.alloc (.cells ((Lib.splitB a 0 (Lib.countB s a) s).map Value.string).toArray 9):=Any.strings_Split Tryz.lays146 J3 s a m w b hm h1
end Go.Proofs
namespace Go.Proofs.YtkdbheidpdjimaaGreatDoor
open Proofs.Tryz Go.RowKit
def lookW (h:Bool):BY:=if h then ⟨#[104,97,115]⟩ else ⟨#[97,115,107]⟩
