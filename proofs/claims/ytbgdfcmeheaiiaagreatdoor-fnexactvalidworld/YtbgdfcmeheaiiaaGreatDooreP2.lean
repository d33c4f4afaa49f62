import Derived.Test.YtbgdfcmeheaiiaaGreatDoorkH
import Derived.Shelf.Strings.Builder1
import Derived.Laws.Externs
set_option linter.unusedVariables false
set_option linter.unusedSimpArgs false
set_option maxHeartbeats 8000000
set_option maxRecDepth 100000
namespace Go.Proofs.YtbgdfcmeheaiiaaGreatDoor
open Proofs.Tryz Go.RowKit
def bg(m:M3)(ls:List L4)(c:Int)(t:BY):Prop:=Xe m=true/\Ee ls/\vr c t.data.toList=true
def VB(P:Prop)(l:List UInt8)(e:Ending):Prop:=∃s,e=.returned (.string s)/\((P/\s=Y2 l)\/(¬P/\s=⟨#[]⟩))
theorem ak{P:Prop}{l:List UInt8}(h:¬P):VB P l (.returned (.string ⟨#[]⟩)):=⟨_,rfl,.inr ⟨h,rfl⟩⟩
theorem VB.congr{P Q:Prop}{l k:List UInt8}{e:Ending}(h:VB P l e)(a:P↔Q)(hl:P->l=k):VB Q k e:=by
 obtain⟨s,rfl,h⟩:=h;refine⟨s,rfl,?_⟩;rcases h with⟨h1,h2⟩|⟨h1,h2⟩
 ·exact .inl ⟨a.1 h1,by rw[h2,hl h1]⟩
 exact .inr ⟨λh=>h1 (a.2 h),h2⟩
theorem c208(m:M3)(ls:List L4)(c:Int)(t:BY)(g:OA)(n:Nat)(w:World)(hm:m.le 1048576)(hl:ls.length<=1048576)(s:∀i,(ls.getD i l_).le 1048576)(ht:t.size<=1048576)(x:X6 w g ls):
 Calls prog 208 #[.agg #[.string m.nm,.string m.tl,.string m.ar],.slice g ls.length n,.agg #[.int .i64 c,.string t]] w λe w'=>Ia (bg m ls c t) e/\Bw w w':=by
 go_in
 go_wp2_with fail
 refine(c98 m _ ⟨Q8 hm.1 O0,Q8 hm.2.1 O0,Q8 hm.2.2 O0⟩).mono ?_;rintro e j⟨rfl,k⟩;have b:Below (w.heap.size+2) ((w.alloc (.cells #[vS m.nm,vS m.tl,vS m.ar] 68)).alloc (.cells #[vI c,vS t] 71)) j:=Tq k;have p:E5 ((w.alloc (.cells #[vS m.nm,vS m.tl,vS m.ar] 68)).alloc (.cells #[vI c,vS t] 71)) (w.heap.size+1) [vI c,vS t]:=by have h:=I9 (w.alloc (.cells #[vS m.nm,vS m.tl,vS m.ar] 68)) [vI c,vS t] 71;simp at h;exact h
 have z:=p.below b O0;have f:=(P6.alloc O4 _).trans (b.mono O0);have q:w.heap.size+1<j.heap.size:=by have h:=b.size;simp at h;omega
 clear k p;cases hn:Xe m
 ·have a:Hid (Ia (bg m ls c t) (.returned (.bool false))):=Z5 (λh=>by have h1:=h.1;rw[hn]at h1;cases h1);go_wp2;go_ret;exact⟨a.out,f⟩
 go_wp2_with fail
 refine(c93 g n ls _ hl s (Z4 x f)).mono ?_;rintro e w2⟨⟨r,rfl,hr⟩,d⟩;have l:=P5 f d;have o:=z.below d q;have k0:=o 0 _ rfl;have k1:=o 1 _ rfl;clear d;cases r
 ·have a:Hid (Ia (bg m ls c t) (.returned (.bool false))):=Z5 (λh=>absurd (hr.2 h.2.1) J6);clear hr;go_wp2;go_ret;exact⟨a.out,l⟩
 have u:=hr.1 rfl;clear hr
 go_wp2_with fail
 refine(c94 c t _ O0).mono ?_;rintro e w3⟨rfl,v⟩;have y:=P5 l v;have a:Hid (Ia (bg m ls c t) (.returned (.bool (vr c t.data.toList)))):=⟨_,rfl,⟨λh=>⟨hn,u,h⟩,λh=>h.2.2⟩⟩;go_wp2;go_ret;exact⟨a.out,y⟩
theorem wK{B i j:Nat}(h:i≠j):(⟨B,i,none⟩:Addr)≠⟨B,j,none⟩:=by intro e;injection e with _ e;exact h e
end Go.Proofs.YtbgdfcmeheaiiaaGreatDoor
namespace Go.Proofs
open Go.Shelf
def Tryz.lays169_ren:Go.Shelf.Ren:=⟨λ| 169=>291|n=>n, λ| 70=>413|9=>9|0=>0|72=>415|37=>258|127=>457|3=>3|5=>5|n=>n, λ| n=>n⟩
theorem Tryz.lays169:Go.Proofs.Lays.n169 prog Tryz.lays169_ren:={
 mixed:=Y0
 f169:=func291.trans (U6 some Y0)
 t0:=underlying0
 a0:=Tryz.isAgg0
 z0:=Tryz.sizeOf0
 v0:=Tryz.zeroValue0
 t3:=underlying3
 a3:=Tryz.isAgg3
 z3:=Tryz.sizeOf3
 v3:=Tryz.zeroValue3
 t9:=underlying9
 a9:=Tryz.isAgg9
 z9:=Tryz.sizeOf9
 v9:=Tryz.zeroValue9
 t37:=underlying258
 a37:=Tryz.isAgg258
 z37:=Tryz.sizeOf258
 v37:=Tryz.zeroValue258
 t70:=underlying413
 a70:=Tryz.isAgg413
 z70:=Tryz.sizeOf413
 v70:=Tryz.zeroValue413
 t72:=underlying415
 a72:=Tryz.isAgg415
 z72:=Tryz.sizeOf415
 v72:=Tryz.zeroValue415
 t127:=underlying457
 a127:=Tryz.isAgg457
 z127:=Tryz.sizeOf457
 v127:=Tryz.zeroValue457 }
theorem Tryz.Builder_Extra_169:Builder.Extra prog Tryz.lays169_ren:={
 sizeBuilder:=Y0
 liesBuilder:=Y0
 t5:=underlying5
 a5:=Tryz.isAgg5
 z5:=Tryz.sizeOf5
 v5:=Tryz.zeroValue5
 infoByte:=Y0
 cellsByte:=Y0
 sizeByte:=Y0
 neB5:=by decide }
open Go.RowKit in
theorem Tryz.Builder_String_any(B b:Nat)(l:List UInt8)(w:World)(h:Lib.IsBuilder 415 5 B b (Lib.byteCells l) w)(a:B<=w.heap.size):
 Calls prog 291 #[.pointer (some ⟨b,0,none⟩)] w λe w'=>e=.returned (.string ⟨l.toArray⟩)/\Below B w w':=Any.Builder_String_any Tryz.lays169 Tryz.Builder_Extra_169 B b l w h a
end Go.Proofs
namespace Go.Proofs.YtbgdfcmeheaiiaaGreatDoor
open Proofs.Tryz Go.RowKit
variable{w:World}{b n:Nat}{o:Obj}{e:TypeId}{v:Value}{xs:List Value}
theorem QJ:(prog.info? 415).map (λi=>i.size)=some 2:=Y0
theorem info5:(prog.info? 5).map (λi=>(i.zero,i.size,i.bytes))=some (some (.int .u8 0),1,1):=Y0
theorem nX:liesAt prog prog.depth 415 (2 / prog.cellsOf 415) 0 415 1=true:=Y0
theorem xJ(b:Nat)(w:World)(h0:w.cell? ⟨b,0,none⟩=some (.pointer (some ⟨b,0,none⟩))):
 Calls prog 326 #[.pointer (some ⟨b,0,none⟩)] w λe w'=>e=.returned (.tuple #[])/\w'=w:=by
 obtain⟨j,a,_⟩:=Wy.1 QJ;have kn:=Lib.run_neq_ptr_same (P:=prog) w (aA b 0) underlying413 a
 go_in
 go_wp2
 go_end0
 exact⟨rfl,rfl⟩
theorem WH(b:Nat)(w:World)(h0:w.cell? ⟨b,0,none⟩=some (.pointer none))(a:w.shape? b=some (415,2))(hfz:w.frozen? ⟨b,0,none⟩=false):
 Calls prog 326 #[.pointer (some ⟨b,0,none⟩)] w λe w'=>e=.returned (.tuple #[])/\w'=w.setCell ⟨b,0,none⟩ (.pointer (some ⟨b,0,none⟩)):=by
 obtain⟨j,c,d⟩:=Wy.1 QJ;have k1:=Lib.run_to_unsafe (P:=prog) w (aA b 0) underlying413 underlying381 c (by rw[d];decide) a (Nat.zero_lt_succ 1);have k3:=Lib.run_from_unsafe (P:=prog) w (aA b 0) underlying381 underlying413 c a nX;have k2:∀x,Sem.run prog (callFunc 342 #[x]) w=.ok (.value x) w:=λx=>by
  rw[run_callFunc_extern func342 Y0 Y0 Y0 (e:=Extern.AbiNoEscape.same) Y0];rw[Lib.run_noEscape];rfl
 go_in
 go_wp2
 go_end0
 exact⟨rfl,rfl⟩
theorem a2X(B b:Nat)(a:List Value)(w:World)(h:Lib.IsBuilder 415 5 B b a w):
 Calls prog 326 #[.pointer (some ⟨b,0,none⟩)] w λe w'=>e=.returned (.tuple #[])/\Lib.BuilderAt 415 5 B b (.pointer (some ⟨b,0,none⟩)) a w'/\Below B w w'/\w'.heap.size=w.heap.size:=by
 rcases h with h|h
 ·refine(WH b w h.cell0 h.shape h.frozen0).mono ?_;rintro e w'⟨rfl,rfl⟩;exact⟨rfl,h.used _,(J4 B w).setCell (p:=(aA b 0)) h.1 _,O4⟩
 refine(xJ b w h.cell0).mono ?_;rintro e w'⟨rfl,rfl⟩;exact⟨rfl,h,J4 B _,rfl⟩
theorem Xf(h:w.heap[b]?=some o):b<w.heap.size:=by
 rcases P7 b w.heap.size with a|a
 ·exact a
 simp[Kq a]at h
theorem TN{B:Nat}(h:w.ownsRow B e 1 v n xs):∃ao c,v=.slice ao n c:=by
 rcases h.2 with⟨hv,h0⟩|⟨g,cap,cur,hv,_⟩
 ·exact⟨none,0,by rw[hv,h0]⟩
 exact⟨_,_,hv⟩
theorem jM{c a:World}(d:c.heap[b]?=some o)(f:v.ownBlock≠some b)(g:c.grownBy a v.ownBlock):a.heap[b]?=some o:=by
 rw[g.block b (Xf d) (λe=>f e.symm)];exact d
theorem a1H(B b:Nat)(a:List Value)(c:Int)(w:World)(h:Lib.IsBuilder 415 5 B b a w)(hlen:a.length+1<=140737488355328)(hBw:B<=w.heap.size):
 Calls prog 289 #[.pointer (some ⟨b,0,none⟩),.int .u8 c] w λe w'=>e=.returned .nilIface/\Lib.IsBuilder 415 5 B b (a++[.int .u8 c]) w'/\Below B w w':=by
 obtain⟨r,A,x,t,s⟩:=info_parts info5;have F:=U0 h;clear h
 go_in
 go_wp2_with fail
 refine(a2X B b a w F.out).mono ?_;rintro e f⟨rfl,h1,C,y⟩;obtain⟨hB,v,i,n,o⟩:=h1;have D:B<=f.heap.size:=O0;have q:=U0 i;have E:=U0 o;have c1:f.cell? (aA b 1)=some v:=by rw[Lib.cell_of_heap i];rfl
 clear i o y
 go_wp2_with(at_builtin;refine wpList_append_own _ rfl _ _ 258 rfl B 5 r (.int .u8 0) 1 1 underlying258 A x t s rfl J6 _ _ _ rfl (n.alloc _) ⟨f.heap.size,0,none⟩ 1 1 [.int .u8 c] rfl rfl (cell_one_new _ _ _) (by intro u l;simp at l;subst l;rfl) (by unfold maxLen;omega) O0 X7 ?_;intro v' d m g _;have j:Hid (d.heap[b]?=some (.cells #[.pointer (some ⟨b,0,none⟩),v] 415 (0,0))):=jM (v:=v) (by rw[Below.heap_alloc f _ b (Xf q.out)];exact q.out) E.out g;have H:Hid (Below B w d):=(C.alloc D _).grown g X7 (λk z=>(n.lt k z).1);obtain⟨ao,cp,rfl⟩:=TN m;have d1:d.cell? ⟨b,1,none⟩=some v:=(by rw[Lib.cell_of_heap j.out];rfl);have f1:d.frozen? ⟨b,1,none⟩=false:=Lib.frozen_of_heap j.out 1;clear g)
 go_ret;refine⟨rfl,.inr ?_,?_⟩
 ·exact Lib.BuilderAt.put (T:=415) (e:=5) hB j.out (bs':=a++[.int .u8 c]) (by simpa using m) J6
 exact H.out.setCell (p:=(aA b 1)) hB _
theorem ownsRow_below{w':World}{base:Nat}{size:Nat}(h:w.ownsRow base e size v n xs)(c:Bw w w'):w'.ownsRow base e size v n xs:=by
 obtain⟨h1,h2⟩:=h;refine⟨h1,?_⟩;rcases h2 with h|⟨g,d,cur,hv,b,a,hr⟩
 ·exact .inl h
 exact .inr ⟨g,d,cur,hv,b,by rw[c.block g (Xf a)];exact a,hr⟩
