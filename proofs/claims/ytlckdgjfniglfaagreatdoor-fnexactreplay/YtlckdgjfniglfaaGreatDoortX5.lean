import Derived.Test.YtlckdgjfniglfaaGreatDoortW4
import Derived.Lib.SliceRun
import Derived.Lib.Overlaps
import Derived.Lib.AppendZerosOnto
set_option linter.unusedVariables false
set_option linter.unusedSimpArgs false
set_option maxHeartbeats 8000000
set_option maxRecDepth 100000
namespace Go.Proofs.YtlckdgjfniglfaaGreatDoor.T
open Proofs.Tryz
open Go.RowKit
theorem _root_.Go.Proofs.YtlckdgjfniglfaaGreatDoor.But.setCells (b:Nat):∀ (vs:List Value) (o:Nat) {w w':World},But b w w'->But b w (w'.setCells b o vs)
 | [],_,_,_,h=>h
 | v::vs,o,_,_,h=>But.setCells b vs (o+1) (h.setCell o v)
theorem _root_.Go.Proofs.YtlckdgjfniglfaaGreatDoor.But.drew {b:Nat} {w w':World} (h:But b w w'):But b w w'.drew:=⟨h.os,h.tape,h.output,h.size,h.block⟩
def Of4 (w:World) (g:Nat):Prop:=OfT w g 40
theorem of4_set {w:World} {g q j:Nat} {v:Value} (h:Of4 w g):Of4 (w.setCell ⟨q,j,none⟩ v) g:=by
 by_cases e:q=g
 · subst e;exact ofT_set h j v
 · obtain ⟨cur,fr,h⟩:=h
   exact ⟨cur,fr,(Below.heap_setCell _ _ _ _ (fun k=>e k.symm)).trans h⟩
theorem of4_sets (g:Nat):∀ (vs:List Value) (o:Nat) {w:World} {b:Nat},Of4 w b->Of4 (w.setCells g o vs) b
 | [],_,_,_,h=>h
 | _::vs,o,_,_,h=>of4_sets g vs (o+1) (of4_set h)
theorem own_of4 {w:World} {B g n c:Nat} {v:Value} {fs:List F2} (h:OwnF w B v fs) (hv:v=.slice (some ⟨g,0,none⟩) n c):Of4 w g:=own_ofT h (by rw [hv];rfl)
theorem run_clear2 (w:World) (ty:TypeId) (b o c:Nat) (h0:(w.cell? ⟨b,o,none⟩).isSome=true) (h1:(w.cell? ⟨b,o+1,none⟩).isSome=true) (hf:∀ j,w.frozen? ⟨b,j,none⟩=false):
 (Builtin.clear_ #[24] ty #[.slice (some ⟨b,o,none⟩) 1 c]).run prog w=.ok (.tuple #[]) (w.setCells b o [.string ⟨#[]⟩,.string ⟨#[]⟩]):=by
 have hzc:(Builtin.zeroCells (Value.agg #[.string ⟨#[]⟩,.string ⟨#[]⟩]).cells 1).toList=[.string ⟨#[]⟩,.string ⟨#[]⟩]:=kr_;have hst:=run_storeCells_cells (P:=prog) b o [.string ⟨#[]⟩,.string ⟨#[]⟩] 0 w (fun j hj=>by
  match j,hj with
  | 0,_=>exact h0
  | 1,_=>exact h1) (fun j _=>hf _) (by intro v hv;simp at hv;rw [hv];rfl)
 simp only [Nat.add_zero] at hst;simp [Builtin.clear_,run_underlying underlying24,hzc,hst]
def del (fs:List F2) (p:Nat):List F2:=fs.take p++fs.drop (p+1)
theorem del_len {fs:List F2} {p:Nat} (h:p<fs.length):(del fs p).length=fs.length - 1:=by unfold del;rw [List.length_append,List.length_take,List.length_drop];omega
theorem del_lo {fs:List F2} {p i:Nat} (h:p<fs.length) (hi:i<p):(del fs p).getD i f2z=fs.getD i f2z:=by
 unfold del;simp only [List.getD];rw [List.getElem?_append_left (by rw [List.length_take];omega),List.getElem?_take_of_lt hi]
theorem del_hi {fs:List F2} {p i:Nat} (h:p<fs.length) (hi:p<=i):(del fs p).getD i f2z=(fs.drop (p+1)).getD (i - p) f2z:=by
 unfold del;simp only [List.getD];rw [List.getElem?_append_right (by rw [List.length_take];omega),List.length_take,Nat.min_eq_left om_]
theorem drop_getD (fs:List F2) (n i:Nat):(fs.drop n).getD i f2z=fs.getD (n+i) f2z:=by simp [List.getD,List.getElem?_drop]
theorem isSome_setCells (b:Nat):∀ (vs:List Value) (o:Nat) (w:World) (x:Addr),(w.cell? x).isSome=true->((w.setCells b o vs).cell? x).isSome=true
 | [],_,_,_,h=>h
 | v::vs,o,w,x,h=>isSome_setCells b vs (o+1) _ x (by
  obtain ⟨y,hy⟩:=Option.isSome_iff_exists.1 h;obtain ⟨z,hz⟩:=cell?_setCell_some (w:=w) (p:=⟨b,o,none⟩) (x:=v) hy;rw [hz];rfl)
theorem c88 (g cap:Nat) (fs:List F2) (p:Nat) (w:World) (hl:fs.length<=40) (hp:p<fs.length) (hc:fs.length<=cap) (hg:g<w.heap.size) (hat:∀ i,i<fs.length->w.cell? ⟨g,i*2,none⟩=some (.string (fs.getD i f2z).nm)/\w.cell? ⟨g,i*2+1,none⟩=some (.string (fs.getD i f2z).tx)) (hfz:∀ j,w.frozen? ⟨g,j,none⟩=false):
 Calls prog 88 #[.slice (some ⟨g,0,none⟩) fs.length cap,.int .i64 p,.int .i64 ((p:Int)+1)] w fun e w'=>e=.returned (.slice (some ⟨g,0,none⟩) (fs.length - 1) cap)/\FilesAt w' (some ⟨g,0,none⟩) (del fs p)/\Open2 w' g (fs.length - 1)/\But g w w'/\(Of4 w g->Of4 w' g):=by
 obtain ⟨i0,hi,hz0,hz1,hz2⟩:=info_parts info40;have hne:((p:Int)==(p:Int)+1)=false:=beq_eq_false_iff_ne.2 om_;have hpc:p<=cap:=om_;have hp0:(0:Int)<=(p:Int)+1:=om_;have hp1:(p:Int)+1<=(fs.length:Int):=om_;obtain ⟨A,hA,HA⟩:∃ A:Addr,(if cap=p+1 then some (⟨g,0,none⟩:Addr) else some ⟨g,(p+1)*2,none⟩)=some A/\Hid (∀ j u,(fileCells (fs.drop (p+1)))[j]?=some u->w.drew.cell? (A.add j)=some u):=by
  by_cases h:cap=p+1
  · refine ⟨_,by rw [if_pos h],fun j u hu=>?_⟩
    have h0:fs.drop (p+1)=[]:=List.drop_eq_nil_of_le om_;rw [h0] at hu;simp [fileCells] at hu
  · refine ⟨_,by rw [if_neg h],fun j u hu=>?_⟩
    refine files_cells (w:=w.drew) (fs:=fs.drop (p+1)) (b:=g) (off:=(p+1)*2) (fun i hi=>?_) j u hu;rw [List.length_drop] at hi;have:=hat (p+1+i) om_;rw [drop_getD,show (p+1)*2+i*2=(p+1+i)*2 by omega];exact this
 have hcellS:∀ j,j<fs.length*2->(w.cell? ⟨g,j,none⟩).isSome=true:=fun j hj=>by
  have:=hat (j / 2) om_;rcases Nat.mod_two_eq_zero_or_one j with h | h
  · rw [show j=j / 2*2 by omega,this.1];rfl
  · rw [show j=j / 2*2+1 by omega,this.2];rfl
 have HSP:Hid (∀ j,j<(fileCells (fs.drop (p+1))).length->(w.drew.cell? ⟨g,0+p*2+j,none⟩).isSome=true/\w.drew.frozen? ⟨g,0+p*2+j,none⟩=false):=fun j hj=>by
  rw [fileCells_len,List.length_drop] at hj;exact ⟨hcellS _ om_,hfz _⟩
 have HAT:Hid (∀ i,i<fs.length->w.cell? ⟨g,i*2,none⟩=some (.string (fs.getD i f2z).nm)/\w.cell? ⟨g,i*2+1,none⟩=some (.string (fs.getD i f2z).tx)):=hat;have HFZ:Hid (∀ j,w.frozen? ⟨g,j,none⟩=false):=hfz;have HCS:Hid (∀ j,j<fs.length*2->(w.cell? ⟨g,j,none⟩).isSome=true):=hcellS;clear hat hfz hcellS;go_enter func88,ntmps88
 go_wp2_with fail
 refine wp_region_held_drew (S:=(fun _=>True)) kr_ ?_ fun hHeld=>?_
 · ((try dsimp only);(try trivial))
 refine tq 0 hHeld ?_
 try simp only [qq]
 refine tq 1 hHeld ?_
 try simp only [qq]
 refine tq 2 hHeld ?_
 try simp only [qq]
 refine tq 3 hHeld ?_
 try simp only [qq]
 refine tq 4 hHeld ?_
 try simp only [qq]
 refine tq 5 hHeld ?_
 try simp only [qq]
 refine rq 6 fun K hK=>?_;refine step_append_room rfl (.tmp 22) (.tmp 25) 24 rfl 40 i0 2 underlying24 hi hz1 g 0 p cap rfl A (fs.length - (p+1)) (cap - (p+1)) (fileCells (fs.drop (p+1))) rfl (by rw [fileCells_len,List.length_drop]) HA.out fileCells_one om_ HSP.out ?_;clear hHeld;refine hK.out _ _ ?_ fun hHeld=>?_
 · trivial
 clear hK K
 try simp only [qq]
 refine tq 7 hHeld ?_
 try simp only [qq]
 refine wpAnyH_done kr_ ?_ _;have hD:(fileCells (fs.drop (p+1))).length=(fs.length - (p+1))*2:=by rw [fileCells_len,List.length_drop]
 have W1S:∀ j,j<fs.length*2->((w.drew.setCells g (0+p*2) (fileCells (fs.drop (p+1)))).cell? ⟨g,j,none⟩).isSome=true:=fun j hj=>isSome_setCells g _ _ _ _ (HCS.out j hj);have W1F:∀ j,(w.drew.setCells g (0+p*2) (fileCells (fs.drop (p+1)))).frozen? ⟨g,j,none⟩=false:=fun j=>(World.frozen?_setCells g _ _ _ _).trans (HFZ.out j);have W1lo:∀ j,j<p*2->(w.drew.setCells g (0+p*2) (fileCells (fs.drop (p+1)))).cell? ⟨g,j,none⟩=w.cell? ⟨g,j,none⟩:=fun j hj=>World.cell?_setCells_out g _ _ _ _ (fun _ _=>.inl (by show j<0+p*2;omega));have W1hi:∀ j,j<(fs.length - (p+1))*2->(w.drew.setCells g (0+p*2) (fileCells (fs.drop (p+1)))).cell? ⟨g,p*2+j,none⟩=(fileCells (fs.drop (p+1)))[j]?:=fun j hj=>by
  have:=World.cell?_setCells_in g (fileCells (fs.drop (p+1))) (0+p*2) w.drew (fun i hi=>(HSP.out i hi).1) j (by rw [hD];exact hj);rw [Nat.zero_add] at this ⊢;rw [this,List.getElem?_eq_getElem (by rw [hD];exact hj)]
 have HW4:Hid (Of4 w g->Of4 (w.drew.setCells g (0+p*2) (fileCells (fs.drop (p+1)))) g):=fun h=>of4_sets _ _ _ h;have W1B:But g w (w.drew.setCells g (0+p*2) (fileCells (fs.drop (p+1)))):=But.setCells g _ _ (But.refl _ _).drew;have HLO:Hid (∀ j,j<p*2->(w.drew.setCells g (0+p*2) (fileCells (fs.drop (p+1)))).cell? ⟨g,j,none⟩=w.cell? ⟨g,j,none⟩):=W1lo;have HHI:Hid (∀ j,j<(fs.length - (p+1))*2->(w.drew.setCells g (0+p*2) (fileCells (fs.drop (p+1)))).cell? ⟨g,p*2+j,none⟩=(fileCells (fs.drop (p+1)))[j]?):=W1hi;have HWS:Hid (∀ j,j<fs.length*2->((w.drew.setCells g (0+p*2) (fileCells (fs.drop (p+1)))).cell? ⟨g,j,none⟩).isSome=true):=W1S;have HWF:Hid (∀ j,(w.drew.setCells g (0+p*2) (fileCells (fs.drop (p+1)))).frozen? ⟨g,j,none⟩=false):=W1F;have HWB:Hid (But g w (w.drew.setCells g (0+p*2) (fileCells (fs.drop (p+1))))):=W1B;clear W1S W1F W1lo W1hi W1B hD HSP HA hHeld;generalize w.drew.setCells g (0+p*2) (fileCells (fs.drop (p+1)))=W1 at*;have hq:p+(fs.length - (p+1))=fs.length - 1:=om_;have hq1:fs.length - (fs.length - 1)=1:=om_;have hq2:fs.length - 1<=fs.length:=om_;have hq3:(p:Int)+((fs.length - (p+1):Nat):Int)=((fs.length - 1:Nat):Int):=om_;have hcl:∀ ty c,(Builtin.clear_ #[24] ty #[.slice (some ⟨g,(fs.length - 1)*2,none⟩) 1 c]).run prog W1=.ok (.tuple #[]) (W1.setCells g ((fs.length - 1)*2) [.string ⟨#[]⟩,.string ⟨#[]⟩]):=fun ty c=>
  run_clear2 W1 ty g _ c (HWS.out _ om_) (HWS.out _ om_) HWF.out
 rw [hq];go_wp2;have hLo:∀ j,j<(fs.length - 1)*2->(W1.setCells g ((fs.length - 1)*2) [.string ⟨#[]⟩,.string ⟨#[]⟩]).cell? ⟨g,j,none⟩=W1.cell? ⟨g,j,none⟩:=fun j hj=>World.cell?_setCells_out g _ _ _ _ (fun _ _=>.inl (by show j<(fs.length - 1)*2;omega));have hsz:g<(W1.setCells g ((fs.length - 1)*2) [.string ⟨#[]⟩,.string ⟨#[]⟩]).heap.size:=Nat.lt_of_lt_of_le hg (But.setCells g _ _ HWB.out).size;go_ret;refine ⟨rfl,.inr ⟨g,0,rfl,hsz,fun i hi=>?_⟩,⟨hsz,fun j hj=>?_,fun j=>(World.frozen?_setCells g _ _ _ _).trans (HWF.out j)⟩,But.setCells g _ _ HWB.out,fun h=>of4_sets _ _ _ (HW4.out h)⟩
 · rw [del_len hp] at hi
   rw [Nat.zero_add,hLo _ om_,hLo _ om_];rcases Nat.lt_or_ge i p with h | h
   · rw [HLO.out _ om_,HLO.out _ om_,del_lo hp h]
     exact HAT.out i om_
   · obtain ⟨e0,e1⟩:=fileCells_get (fs.drop (p+1)) (i - p) (by rw [List.length_drop];omega)
     have h0:=HHI.out ((i - p)*2) om_;have h1:=HHI.out ((i - p)*2+1) om_;rw [show p*2+(i - p)*2=i*2 by omega,e0] at h0;rw [show p*2+((i - p)*2+1)=i*2+1 by omega,e1] at h1;rw [del_hi hp h];exact ⟨h0,h1⟩
 · exact Option.isSome_iff_exists.1 (isSome_setCells g _ _ _ _ (HWS.out j om_))
theorem open_of_files {w:World} {B:Nat} {fs:List F2} (h:FilesAt w (some ⟨B,0,none⟩) fs) (hz:B<w.heap.size) (hf:∀ j,w.frozen? ⟨B,j,none⟩=false):Open2 w B fs.length:=by
 refine ⟨hz,fun j hj=>?_,hf⟩;rcases h with h | ⟨b,off,h1,h2,h3⟩
 · rw [h] at hj;simp at hj
 · obtain ⟨rfl,rfl⟩:B=b/\0=off:=by injection h1 with h1;injection h1 with e1 e2;exact ⟨e1,e2⟩
   have:=h3 (j / 2) om_;simp only [Nat.zero_add] at this;rcases Nat.mod_two_eq_zero_or_one j with h | h
   · rw [show j=j / 2*2 by omega];exact ⟨_,this.1⟩
   · rw [show j=j / 2*2+1 by omega];exact ⟨_,this.2⟩
theorem ne_of_lt' {a b:ByteArray} (h:lt a b=true):a≠b:=fun e=>by rw [e,lt_irrefl'] at h;cases h
theorem str_ne {x y:ByteArray} (h:x≠y):(x.toList==y.toList)=false:=by
 rw [beq_eq_false_iff_ne];intro e;rw [ByteArray.toList_eq,ByteArray.toList_eq] at e;exact h (ByteArray.ext (Array.toList_inj.1 e))
theorem getD_mem {fs:List F2} {x:F2} (h:x∈fs):∃ i,i<fs.length/\fs.getD i f2z=x:=by
 obtain ⟨i,hi,rfl⟩:=List.getElem_of_mem h;exact ⟨i,hi,by simp [List.getD,List.getElem?_eq_getElem hi]⟩
theorem filter_all {fs:List F2} {nm:ByteArray} (h:∀ i,i<fs.length->(fs.getD i f2z).nm≠nm):without fs nm=fs:=by
 unfold without;refine List.filter_eq_self.2 fun x hx=>?_;obtain ⟨i,hi,rfl⟩:=getD_mem hx;rw [str_ne (h i hi)];rfl
theorem take_getD {fs:List F2} {p i:Nat} (h:i<p):(fs.take p).getD i f2z=fs.getD i f2z:=by simp [List.getD,List.getElem?_take_of_lt h]
theorem without_del {fs:List F2} {p:Nat} (hm:Asc fs) (hp:p<fs.length):without fs (fs.getD p f2z).nm=del fs p:=by
 have e:fs=fs.take p++fs.getD p f2z::fs.drop (p+1):=by
  conv=>lhs;rw [<- List.take_append_drop (p+1) fs,take_succ_getD hp]
  simp
 have h1:without (fs.take p) (fs.getD p f2z).nm=fs.take p:=filter_all fun i hi=>by
  rw [List.length_take] at hi;rw [take_getD om_];exact ne_of_lt' (hm i p om_ hp)
 have h2:without (fs.drop (p+1)) (fs.getD p f2z).nm=fs.drop (p+1):=filter_all fun i hi=>by
  rw [List.length_drop] at hi;rw [drop_getD];exact (ne_of_lt' (hm p (p+1+i) om_ om_)).symm
 have h3:without (fs.take p++fs.getD p f2z::fs.drop (p+1)) (fs.getD p f2z).nm=without (fs.take p) (fs.getD p f2z).nm++without (fs.drop (p+1)) (fs.getD p f2z).nm:=by
  unfold without;rw [List.filter_append,List.filter_cons_of_neg sm_]
 rw [<- e,h1,h2] at h3;exact h3
def DropR (fs:List F2) (nm:ByteArray) (c:Int) (gs:List F2):Prop:=
 (¬ treeOk fs/\c=1/\gs=[])\/(treeOk fs/\(∀ i,i<fs.length->(fs.getD i f2z).nm≠nm)/\c=4/\gs=[])\/(treeOk fs/\(∃ i,i<fs.length/\(fs.getD i f2z).nm=nm)/\c=0/\gs=without fs nm)
theorem dropR_one {fs:List F2} {nm:ByteArray} {c c':Int} {gs gs':List F2} (h:DropR fs nm c gs) (k:DropR fs nm c' gs'):c'=c/\gs'=gs:=by
 rcases h with ⟨h1,rfl,rfl⟩ | ⟨h1,h2,rfl,rfl⟩ | ⟨h1,⟨i,hi,h2⟩,rfl,rfl⟩ <;> rcases k with ⟨k1,rfl,rfl⟩ | ⟨k1,k2,rfl,rfl⟩ | ⟨k1,⟨j,hj,k2⟩,rfl,rfl⟩
 · exact ⟨rfl,rfl⟩
 · exact absurd k1 h1
 · exact absurd k1 h1
 · exact absurd h1 k1
 · exact ⟨rfl,rfl⟩
 · exact absurd k2 (h2 j hj)
 · exact absurd h1 k1
 · exact absurd h2 (k2 i hi)
 · exact ⟨rfl,rfl⟩
theorem dropR_len {fs:List F2} {nm:ByteArray} {c:Int} {gs:List F2} (h:DropR fs nm c gs):gs.length<=40:=by
 rcases h with ⟨h1,rfl,rfl⟩ | ⟨h1,h2,rfl,rfl⟩ | ⟨h1,h2,rfl,rfl⟩
 · simp
 · simp
 · exact Nat.le_trans (without_len _ _) h1.1
theorem owns_mono {w:World} {B B':Nat} {e:TypeId} {size:Nat} {v:Value} {n:Nat} {xs:List Value} (h:w.ownsRow B e size v n xs) (hB:B'<=B):w.ownsRow B' e size v n xs:=by
 refine ⟨h.1,?_⟩;rcases h.2 with h2 | ⟨g,cap,cur,hv,hg,r⟩
 · exact .inl h2
 · exact .inr ⟨g,cap,cur,hv,Nat.le_trans hB hg,r⟩
theorem own_nil (w:World) (B:Nat):OwnF w B (.slice none 0 0) []:=⟨rfl,.inl ⟨rfl,rfl⟩⟩
structure TwoAt (w u:World) (t r:Value):Prop where
 bel:Below w.heap.size w u
 ht:u.heap[w.heap.size]?=some (.cells #[t] 26 (0,0))
 hr:u.heap[w.heap.size+1]?=some (.cells #[r] 26 (0,0))
theorem TwoAt.start (w:World) (t r:Value):TwoAt w ((w.alloc (.cells #[t] 26)).alloc (.cells #[r] 26)) t r:=
 ⟨bA_.alloc sm_ _,by rw [alloc_old sm_];exact alloc_new rfl _,alloc_new sm_ _⟩
theorem TwoAt.sz {w u:World} {t r:Value} (h:TwoAt w u t r):w.heap.size+2<=u.heap.size:=blk_lt h.hr
theorem TwoAt.later {w u u':World} {t r:Value} (h:TwoAt w u t r) (hb:Below u.heap.size u u'):TwoAt w u' t r:=by
 have:=h.sz;exact ⟨h.bel.trans (hb.mono om_),by rw [hb.block _ om_];exact h.ht,by rw [hb.block _ om_];exact h.hr⟩
theorem TwoAt.but {w u u':World} {t r:Value} {g:Nat} (h:TwoAt w u t r) (hb:But g u u') (hg:w.heap.size+2<=g):TwoAt w u' t r:=by
 have:=h.sz;exact ⟨h.bel.trans (hb.below om_ om_),by rw [hb.block _ om_ om_];exact h.ht,by rw [hb.block _ om_ om_];exact h.hr⟩
theorem TwoAt.cells {w u:World} {t r:Value} (h:TwoAt w u t r):u.cell? ⟨w.heap.size,0,none⟩=some t/\u.cell? ⟨w.heap.size+1,0,none⟩=some r/\u.frozen? ⟨w.heap.size+1,0,none⟩=false:=
 ⟨by rw [Lib.cell_of_heap h.ht];rfl,by rw [Lib.cell_of_heap h.hr];rfl,Lib.frozen_of_heap h.hr 0⟩
theorem c37 (a:Option Addr) (cap:Nat) (fs:List F2) (nm:ByteArray) (w:World) (hl:fs.length<=1048576) (hs:∀ i,(fs.getD i f2z).le 1048576) (hat:FilesAt w a fs):
 Calls prog 37 #[.agg #[.slice a fs.length cap],.string nm] w fun e w'=>(∃ v c gs,e=.returned (.tuple #[.agg #[v],.int .i64 c])/\OwnF w' w.heap.size v gs/\DropR fs nm c gs)/\Below w.heap.size w w':=by
 have HA:Hid (FilesAt w a fs):=hat;have HS:Hid (∀ i,(fs.getD i f2z).le 1048576):=hs;have H0:Hid (TwoAt w ((w.alloc (.cells #[.slice a fs.length cap] 26)).alloc (.cells #[.slice none 0 0] 26)) (.slice a fs.length cap) (.slice none 0 0)):=TwoAt.start _ _ _;clear hat hs;go_enter func37,ntmps37
 go_wp2_with fail
 refine (c66 a cap fs _ hl HS.out (files_below HA.out H0.out.bel)).mono ?_;rintro e w1 ⟨⟨v,rfl,hv⟩,hb1⟩;have HV:Hid (v=true↔treeOk fs):=hv;have H1:Hid (TwoAt w w1 (.slice a fs.length cap) (.slice none 0 0)):=H0.out.later hb1;obtain ⟨t1,r1,f1⟩:=H1.out.cells;clear hv hb1 H0;cases v
 · have HR:Hid (DropR fs nm 1 []):=.inl ⟨fun h=>(by have:=HV.out.2 h;cases this),rfl,rfl⟩
   clear HV;go_wp2;refine bodyPost_ret (v:=.tuple #[.agg #[.slice none 0 0],.int .i64 1]) (by simp [results,Tryz.results37,go_sem,r1]) rfl ⟨⟨_,_,_,rfl,own_nil _ _,HR.out⟩,H1.out.bel.setCell sm_ _⟩
 have hok:=HV.out.1 rfl;have hl40:fs.length<=40:=hok.1;have HOK:Hid (treeOk fs):=hok;clear hok HV
 go_wp2_with fail
 refine (c68 a cap fs nm w1 om_ (files_below HA.out H1.out.bel)).mono ?_;rintro e w2 ⟨⟨r,rfl,hr⟩,hb2⟩;have HRR:Hid ((r<0/\∀ i,i<fs.length->(fs.getD i f2z).nm≠nm)\/(0<=r/\∃ i,i<fs.length/\(fs.getD i f2z).nm=nm)):=by
  rcases hr with ⟨rfl,h⟩ | ⟨i,rfl,h⟩
  · exact .inl ⟨dc_,h⟩
  exact .inr ⟨om_,i,h⟩
 have H2:Hid (TwoAt w w2 (.slice a fs.length cap) (.slice none 0 0)):=H1.out.later hb2;clear hr hb2 t1 r1 f1;obtain ⟨t2,r2,f2⟩:=H2.out.cells;by_cases hneg:r<0
 · have HR:Hid (DropR fs nm 4 []):=.inr (.inl ⟨HOK.out,by rcases HRR.out with h | h;exact h.2;omega,rfl,rfl⟩)
   go_wp2;refine bodyPost_ret (v:=.tuple #[.agg #[.slice none 0 0],.int .i64 4]) (by simp [results,Tryz.results37,go_sem,r2]) rfl ⟨⟨_,_,_,rfl,own_nil _ _,HR.out⟩,H2.out.bel.setCell sm_ _⟩
 have HR:Hid (DropR fs nm 0 (without fs nm)):=.inr (.inr ⟨HOK.out,by rcases HRR.out with h | h;omega;exact h.2,rfl,rfl⟩);have hneg':decide (r<0)=false:=decide_eq_false hneg
 go_wp2_with fail
 refine (c67 a cap fs nm w2 hl40 (files_below HA.out H2.out.bel)).mono ?_;rintro e w3 ⟨⟨v,rfl,hown⟩,hb3⟩;have HO:Hid (OwnF w3 (w2.heap.size+3) v (without fs nm)):=hown;have H3:Hid (TwoAt w w3 (.slice a fs.length cap) (.slice none 0 0)):=H2.out.later hb3;have hz2:=H2.out.sz;clear hown hb3 t2 r2 f2;obtain ⟨t3,r3,f3⟩:=H3.out.cells;obtain ⟨av,cv,hve,_⟩:=HO.out.form;subst hve;go_wp2;refine bodyPost_ret (v:=.tuple #[.agg #[.slice av (without fs nm).length cv],.int .i64 0]) (by simp [results,Tryz.results37,go_sem,r3]) rfl ⟨⟨_,_,_,rfl,?_,HR.out⟩,H3.out.bel.setCell sm_ _⟩;exact owns_but (b:=w.heap.size+1) (owns_mono HO.out om_) ((But.refl _ _).setCell _ _) (fun e=>by have:=(HO.out.lt _ e).1;omega)
theorem own_parts {w:World} {B:Nat} {v:Value} {fs:List F2} (h:OwnF w B v fs) {p:Nat} (hp:p<fs.length):∃ g cap,v=.slice (some ⟨g,0,none⟩) fs.length cap/\B<=g/\fs.length<=cap/\(∀ i,i<fs.length->w.cell? ⟨g,i*2,none⟩=some (.string (fs.getD i f2z).nm)/\w.cell? ⟨g,i*2+1,none⟩=some (.string (fs.getD i f2z).tx))/\(∀ j,w.frozen? ⟨g,j,none⟩=false)/\g<w.heap.size:=by
 have h':=h;rcases h.2 with ⟨hv,h0⟩ | ⟨g,cap,cur,hv,hg,hh,hnc,_⟩
 · omega
 · subst hv
   refine ⟨g,cap,rfl,hg,hnc,fun i hi=>?_,fun j=>Lib.frozen_of_heap hh j,blk_lt hh⟩;obtain ⟨e0,e1⟩:=fileCells_get fs i hi;rw [h'.cellAt _ om_,h'.cellAt _ om_];exact ⟨e0,e1⟩
theorem open_far {w:World} {b n g j:Nat} {v:Value} (h:Open2 w b n) (hne:g≠b):Open2 (w.setCell ⟨g,j,none⟩ v) b n:=by
 refine ⟨by simpa using h.1,fun i hi=>?_,fun i=>by have:=h.2.2 i;simpa using this⟩;rw [World.cell?_setCell_other _ _ _ _ (by intro e;injection e with e1 _;exact hne e1)];exact h.2.1 i hi
def NewF (B:Nat) (w:World) (a:Option Addr) (gs:List F2):Prop:=FilesAt w a gs/\(gs=[]\/∃ g,a=some ⟨g,0,none⟩/\B<=g/\Open2 w g gs.length/\Of4 w g)
theorem c45 (a:Option Addr) (cap:Nat) (fs:List F2) (nm:ByteArray) (w:World) (hl:fs.length<=1048576) (hs:∀ i,(fs.getD i f2z).le 1048576) (hat:FilesAt w a fs):
 Calls prog 45 #[.agg #[.slice a fs.length cap],.string nm] w fun e w'=>(∃ a' cap' c gs,e=.returned (.tuple #[.agg #[.slice a' gs.length cap'],.int .i64 c])/\NewF w.heap.size w' a' gs/\DropR fs nm c gs)/\Below w.heap.size w w':=by
 have HA:Hid (FilesAt w a fs):=hat;have HS:Hid (∀ i,(fs.getD i f2z).le 1048576):=hs;have H0:Hid (TwoAt w ((w.alloc (.cells #[.slice a fs.length cap] 26)).alloc (.cells #[.slice none 0 0] 26)) (.slice a fs.length cap) (.slice none 0 0)):=TwoAt.start _ _ _;clear hat hs;go_enter func45,ntmps45
 go_wp2_with fail
 refine (c83 a cap fs _ hl HS.out (files_below HA.out H0.out.bel)).mono ?_;rintro e w1 ⟨⟨v,rfl,hv⟩,hb1⟩;have HV:Hid (v=true↔treeOk fs):=hv;have H1:Hid (TwoAt w w1 (.slice a fs.length cap) (.slice none 0 0)):=H0.out.later hb1;obtain ⟨t1,r1,f1⟩:=H1.out.cells;clear hv hb1 H0;cases v
 · have HR:Hid (DropR fs nm 1 []):=.inl ⟨fun h=>(by have:=HV.out.2 h;cases this),rfl,rfl⟩
   clear HV;go_wp2;refine bodyPost_ret (v:=.tuple #[.agg #[.slice none 0 0],.int .i64 1]) (by simp [results,Tryz.results45,go_sem,r1]) rfl ⟨⟨none,0,_,[],rfl,⟨.inl rfl,.inl rfl⟩,HR.out⟩,H1.out.bel.setCell sm_ _⟩
 have hok:=HV.out.1 rfl;have hl40:fs.length<=40:=hok.1;have HOK:Hid (treeOk fs):=hok;clear hok HV
 go_wp2_with fail
 refine (c86 a cap fs nm w1 hl40 (files_below HA.out H1.out.bel) (asc_of HOK.out)).mono ?_;rintro e w2 ⟨⟨p,f,rfl,hpl⟩,hb2⟩;have HP:Hid (Place fs nm p f):=hpl;have H2:Hid (TwoAt w w2 (.slice a fs.length cap) (.slice none 0 0)):=H1.out.later hb2;clear hpl hb2 t1 r1 f1;obtain ⟨t2,r2,f2⟩:=H2.out.cells;cases f
 · have HR:Hid (DropR fs nm 4 []):=by
    refine .inr (.inl ⟨HOK.out,fun i hi e=>?_,rfl,rfl⟩);have hpl:=HP.out;rcases Nat.lt_or_ge i p with h | h
    · have:=hpl.less i h;rw [e,lt_irrefl'] at this;cases this
    · rcases Nat.lt_or_ge p i with h1 | h1
      · have h2:=asc_of HOK.out p i h1 hi
        rw [e,hpl.more p lr_ om_] at h2;cases h2
      · obtain rfl:i=p:=om_
        have:=hpl.here.2 ⟨hi,e⟩;cases this
   go_wp2;refine bodyPost_ret (v:=.tuple #[.agg #[.slice none 0 0],.int .i64 4]) (by simp [results,Tryz.results45,go_sem,r2]) rfl ⟨⟨none,0,_,[],rfl,⟨.inl rfl,.inl rfl⟩,HR.out⟩,H2.out.bel.setCell sm_ _⟩
 obtain ⟨hp,hpn⟩:=HP.out.here.1 rfl;have HR:Hid (DropR fs nm 0 (del fs p)):=by
  refine .inr (.inr ⟨HOK.out,⟨p,hp,hpn⟩,rfl,?_⟩);rw [<- hpn,without_del (asc_of HOK.out) hp]
 obtain ⟨b,off,hc⟩:=files_some (files_below HA.out H2.out.bel);rcases hc with hc | ⟨ha,hbw,hcell⟩
 · rw [hc] at hp;exact absurd hp (Nat.not_lt_zero _)
 subst ha;have HCE:Hid (∀ i,i<fs.length->w2.cell? ⟨b,off+i*2,none⟩=some (.string (fs.getD i f2z).nm)/\w2.cell? ⟨b,off+i*2+1,none⟩=some (.string (fs.getD i f2z).tx)):=hcell;clear hcell HP hpn;have hz2:=H2.out.sz
 go_wp2_with fail
 refine (c85 (some ⟨b,off,none⟩) cap fs w2 om_ (.inr ⟨b,off,rfl,hbw,HCE.out⟩)).mono ?_;rintro e w3 ⟨v,rfl,hown,hb3⟩;obtain ⟨g,cap3,hve,hg,hnc,hcel,hfz,hgw⟩:=own_parts hown hp;have H40:Hid (Of4 w3 g):=own_of4 hown hve;subst hve;have H3:Hid (TwoAt w w3 (.slice (some ⟨b,off,none⟩) fs.length cap) (.slice none 0 0)):=H2.out.later hb3;have HC3:Hid (∀ i,i<fs.length->w3.cell? ⟨g,i*2,none⟩=some (.string (fs.getD i f2z).nm)/\w3.cell? ⟨g,i*2+1,none⟩=some (.string (fs.getD i f2z).tx)):=hcel;have HF3:Hid (∀ j,w3.frozen? ⟨g,j,none⟩=false):=hfz;clear hown hb3 hcel hfz HCE t2 r2 f2
 go_wp2_with fail
 refine (c88 g cap3 fs p w3 hl40 hp hnc hgw HC3.out HF3.out).mono ?_;rintro e w4 ⟨rfl,hfa,hop,hbu,h44⟩;have HO4:Hid (Of4 w4 g):=h44 H40.out;clear h44;have H4:Hid (TwoAt w w4 (.slice (some ⟨b,off,none⟩) fs.length cap) (.slice none 0 0)):=H3.out.but hbu om_;have HFA:Hid (FilesAt w4 (some ⟨g,0,none⟩) (del fs p)):=hfa;have HOP:Hid (Open2 w4 g (fs.length - 1)):=hop;obtain ⟨t4,r4,f4⟩:=H4.out.cells;clear hfa hop hbu HC3 HF3;go_wp2;refine bodyPost_ret (v:=.tuple #[.agg #[.slice (some ⟨g,0,none⟩) (fs.length - 1) cap3],.int .i64 0]) (by simp [results,Tryz.results45,go_sem,r4]) rfl ⟨⟨some ⟨g,0,none⟩,cap3,0,del fs p,by rw [del_len hp],⟨files_setCell HFA.out so_,.inr ⟨g,rfl,om_,?_⟩⟩,HR.out⟩,H4.out.bel.setCell sm_ _⟩;rw [del_len hp];exact ⟨open_far HOP.out om_,of4_set HO4.out⟩
structure KAt (old:List F2) (nm:ByteArray) (k:Nat):Prop where
 le:k<=old.length
 less:∀ j,j<k->lt (old.getD j f2z).nm nm=true
 stop:k=old.length\/lt (old.getD k f2z).nm nm=false
theorem kat_one {old:List F2} {nm:ByteArray} {k k':Nat} (h:KAt old nm k) (h':KAt old nm k'):k=k':=by
 rcases Nat.lt_trichotomy k k' with h1 | h1 | h1
 · rcases h.stop with h2 | h2
   · have:=h'.le;omega
   · rw [h'.less k h1] at h2;cases h2
 · exact h1
 · rcases h'.stop with h2 | h2
   · have:=h.le;omega
   · rw [h.less k' h1] at h2;cases h2
def ins (old:List F2) (k:Nat) (x:F2):List F2:=old.take k++x::old.drop k
theorem ins_len (old:List F2) (k:Nat) (x:F2) (h:k<=old.length):(ins old k x).length=old.length+1:=by
 unfold ins;rw [List.length_append,List.length_cons,List.length_take,List.length_drop];omega
def SetR (fs:List F2) (x:F2) (c:Int) (gs:List F2):Prop:=
 (¬ treeOk fs/\c=1/\gs=[])\/(treeOk fs/\fileOk x=false/\c=2/\gs=[])\/(treeOk fs/\fileOk x=true/\40<=(without fs x.nm).length/\c=3/\gs=[])\/(treeOk fs/\fileOk x=true/\(without fs x.nm).length<40/\c=0/\∃ k,KAt (without fs x.nm) x.nm k/\gs=ins (without fs x.nm) k x)
theorem setR_one {fs:List F2} {x:F2} {c c':Int} {gs gs':List F2} (h:SetR fs x c gs) (k:SetR fs x c' gs'):c'=c/\gs'=gs:=by
 rcases h with ⟨h1,rfl,rfl⟩ | ⟨h1,h2,rfl,rfl⟩ | ⟨h1,h2,h3,rfl,rfl⟩ | ⟨h1,h2,h3,rfl,i,hi,rfl⟩ <;> rcases k with ⟨k1,rfl,rfl⟩ | ⟨k1,k2,rfl,rfl⟩ | ⟨k1,k2,k3,rfl,rfl⟩ | ⟨k1,k2,k3,rfl,j,hj,rfl⟩
 all_goals first
  | exact ⟨rfl,rfl⟩
  | exact absurd k1 h1
  | exact absurd h1 k1
  | (exact absurd (h2.symm.trans k2) dc_)
  | (exfalso;omega)
  | (rw [kat_one hi hj];exact ⟨rfl,rfl⟩)
theorem setR_len {fs:List F2} {x:F2} {c:Int} {gs:List F2} (h:SetR fs x c gs):gs.length<=40:=by
 rcases h with ⟨h1,rfl,rfl⟩ | ⟨h1,h2,rfl,rfl⟩ | ⟨h1,h2,h3,rfl,rfl⟩ | ⟨h1,h2,h3,rfl,i,hi,rfl⟩
 · simp
 · simp
 · simp
 · rw [ins_len _ _ _ hi.le];omega
structure ThreeAt (w u:World) (t:Value) (x:F2) (r:Value):Prop where
 bel:Below w.heap.size w u
 ht:u.heap[w.heap.size]?=some (.cells #[t] 26 (0,0))
 hf:u.heap[w.heap.size+1]?=some (.cells #[.string x.nm,.string x.tx] 40 (0,0))
 hr:u.heap[w.heap.size+1+1]?=some (.cells #[r] 26 (0,0))
theorem ThreeAt.start (w:World) (t:Value) (x:F2) (r:Value):ThreeAt w (((w.alloc (.cells #[t] 26)).alloc (.cells #[.string x.nm,.string x.tx] 40)).alloc (.cells #[r] 26)) t x r:=by
 refine ⟨(bA_.alloc sm_ _).alloc so_ _,?_,?_,?_⟩
 · rw [alloc_old so_,alloc_old sm_];exact alloc_new rfl _
 · rw [alloc_old sm_];exact alloc_new sm_ _
 · exact alloc_new sm_ _
theorem ThreeAt.sz {w u:World} {t r:Value} {x:F2} (h:ThreeAt w u t x r):w.heap.size+3<=u.heap.size:=blk_lt h.hr
theorem ThreeAt.later {w u u':World} {t r:Value} {x:F2} (h:ThreeAt w u t x r) (hb:Below u.heap.size u u'):ThreeAt w u' t x r:=by
 have:=h.sz;exact ⟨h.bel.trans (hb.mono om_),by rw [hb.block _ om_];exact h.ht,by rw [hb.block _ om_];exact h.hf,by rw [hb.block _ om_];exact h.hr⟩
theorem ThreeAt.but {w u u':World} {t r:Value} {x:F2} {g:Nat} (h:ThreeAt w u t x r) (hb:But g u u') (hg:w.heap.size+3<=g):ThreeAt w u' t x r:=by
 have:=h.sz;exact ⟨h.bel.trans (hb.below om_ om_),by rw [hb.block _ om_ om_];exact h.ht,by rw [hb.block _ om_ om_];exact h.hf,by rw [hb.block _ om_ om_];exact h.hr⟩
theorem ThreeAt.cells {w u:World} {t r:Value} {x:F2} (h:ThreeAt w u t x r):u.cell? ⟨w.heap.size,0,none⟩=some t/\u.cell? ⟨w.heap.size+1,0,none⟩=some (.string x.nm)/\u.cell? ⟨w.heap.size+1,1,none⟩=some (.string x.tx)/\u.cell? ⟨w.heap.size+1+1,0,none⟩=some r/\u.frozen? ⟨w.heap.size+1+1,0,none⟩=false:=
 ⟨by rw [Lib.cell_of_heap h.ht];rfl,by rw [Lib.cell_of_heap h.hf];rfl,by rw [Lib.cell_of_heap h.hf];rfl,by rw [Lib.cell_of_heap h.hr];rfl,Lib.frozen_of_heap h.hr 0⟩
theorem own_below {w w':World} {B:Nat} {v:Value} {fs:List F2} (h:OwnF w B v fs) {n:Nat} (hb:Below n w w') (hn:∀ k,v.ownBlock=some k->k<n):OwnF w' B v fs:=by
 obtain ⟨h1,h2⟩:=h;refine ⟨h1,?_⟩;rcases h2 with h | ⟨g,cap,cur,hv,hg,hh,hr⟩
 · exact .inl h
 · exact .inr ⟨g,cap,cur,hv,hg,by rw [hb.block g (hn g (by rw [hv];rfl))];exact hh,hr⟩
theorem own_cap {w:World} {B:Nat} {a:Option Addr} {n c:Nat} {fs:List F2} (h:OwnF w B (.slice a n c) fs):fs.length<=c:=by
 rcases h.2 with ⟨hv,h0⟩ | ⟨g,cap,cur,hv,hg,hh,hnc,_⟩
 · omega
 · injection hv with _ _ e;omega
theorem addX (b off i:Nat):(⟨b,off,none⟩:Addr).add i=⟨b,off+i,none⟩:=by unfold Addr.add;split <;> simp_all
theorem own_stW {w:World} {base b j:Nat} {e:TypeId} {size n:Nat} {v x:Value} {xs:List Value} (h:w.ownsRow base e size v n xs) (hb:b<base):(w.setCell ⟨b,j,none⟩ x).ownsRow base e size v n xs:=own_keep' h (fun q hq=>(on_set w b j x).block q (fun e=>by have:=own_blk h hq;omega))
def fiC (fs:List F2):List Value:=fs.flatMap fun x=>[.string x.nm,.string x.tx]
theorem hdI {p:Prop} (h:p):Hid p:=h
theorem fiC_snoc (fs:List F2) (x:F2):fiC (fs++[x])=fiC fs++[.string x.nm,.string x.tx]:=by simp [fiC]
theorem inf40:Inf prog 40 2:=inf_of kr_
theorem cl_at {w:World} {B:Nat} {xs:List Value} {t:TypeId} (h:B=w.heap.size):Cl (w.alloc (.cells xs.toArray t)) B t xs:=h▸cl_new w xs t
theorem row_sl {w:World} {base:Nat} {e:TypeId} {size n:Nat} {v:Value} {xs:List Value} (h:w.ownsRow base e size v n xs):∃ a c,v=.slice a n c:=by
 rcases h.2 with ⟨rfl,rfl⟩ | ⟨g,cap,cur,rfl,_⟩
 · exact ⟨_,_,rfl⟩
 exact ⟨_,_,rfl⟩
theorem gr_bW {B:Nat} {w u u':World} {v:Value} (h:Below B w u) (g:u.grownBy u' v.ownBlock) (hz:B<=u.heap.size) (hv:∀ k,v.ownBlock=some k->B<=k):Below B w u':=
 ⟨g.os.trans h.os,g.tape.trans h.tape,g.output.trans h.output,Nat.le_trans h.size g.size,fun k hk=>(g.block k om_ (fun e=>by have:=hv k e.symm;omega)).trans (h.block k hk)⟩
structure W6 (w:World) (A v:Value) (gs:List F2) (u:World):Prop where
 b:Below w.heap.size w u
 h0:Cl u w.heap.size 26 [A]
 h1:Cl u (w.heap.size+1) 26 [.slice none 0 0]
 h2:Cl u (w.heap.size+1+1) 26 [v]
 ho:u.ownsRow (w.heap.size+3) 40 2 v gs.length (fiC gs)
theorem W6.below {w:World} {A v:Value} {gs:List F2} {u u':World} (h:W6 w A v gs u) (hb:Below u.heap.size u u'):W6 w A v gs u':=
 ⟨h.b.trans (hb.mono h.b.size),h.h0.below hb h.h0.lt,h.h1.below hb h.h1.lt,h.h2.below hb h.h2.lt,ownsRow_below h.ho hb⟩
theorem W6.app {w:World} {A v v':Value} {gs:List F2} {x:F2} {u u':World} (h:W6 w A v gs u) (hr:u'.ownsRow (w.heap.size+3) 40 2 v' (gs.length+1) (fiC gs++[.string x.nm,.string x.tx])) (hg:u.grownBy u' v.ownBlock):Below (w.heap.size+3) u u'/\W6 w A v' (gs++[x]) (u'.setCell ⟨w.heap.size+1+1,0,none⟩ v'):=by
 have k:∀ j,v.ownBlock=some j->w.heap.size+3<=j:=fun j e=>(h.ho.lt j e).1;have hB:=gr_bW (Below.refl (w.heap.size+3) u) hg h.h2.lt k;have c2:=h.h2.below hB om_;have hs:=(Below.refl (w.heap.size+1+1) u').setCell (p:=⟨w.heap.size+1+1,0,none⟩) lr_ v';have hB2:Below (w.heap.size+1+1) u _:=(hB.mono om_).trans hs;refine ⟨hB,h.b.trans (hB2.mono om_),h.h0.below hB2 om_,h.h1.below hB2 om_,c2.set 0 v',?_⟩;rw [List.length_append,fiC_snoc];exact own_stW hr om_
def nq (nm:ByteArray) (y:F2):Bool:=!(y.nm.toList==nm.toList)
theorem c67n (a:Option Addr) (cap:Nat) (fs:List F2) (nm:ByteArray) (w:World) (hl:fs.length<=1000) (hat:FilesAt w a fs):
 Calls prog 67 #[.agg #[.slice a fs.length cap],.string nm] w fun e w'=>(∃ v gs,e=.returned (.agg #[v])/\w'.ownsRow w.heap.size 40 2 v gs.length (fiC gs)/\gs.length<=fs.length/\(∀ x∈gs,x∈fs)/\gs=fs.filter (nq nm))/\Below w.heap.size w w':=by
 obtain ⟨b,off,hc⟩:=files_some hat;have HC:=hdI hc;clear hc hat;go_enter func67,ntmps67
 go_wp2_with fail
 go_loopw [6] (fun i wr=>∃ (k:Nat) (v:Value) (gs:List F2),i=.int .i64 k/\k<=fs.length/\gs.length<=k/\Hid (gs=(fs.take k).filter (nq nm))/\Hid (W6 w (.slice a fs.length cap) v gs wr)) (fun i _=>fs.length - (intOf i).toNat)
 case atStart=>exact ⟨0,_,[],rfl,Nat.zero_le _,Nat.le_refl _,rfl,⟨(bA_.alloc sm_ _).alloc so_ _,cl_old (cl_old (cl_new w [_] 26) _) _,cl_old (cl_at (xs:=[_]) sm_) _,cl_at (xs:=[_]) sm_,World.ownsRow_nil _ _ _ _⟩⟩
 obtain ⟨k,v,gs,rfl,hk,hg,hsub,H⟩:=hrel;obtain ⟨va,vc,rfl⟩:=row_sl H.out.ho;have d0:=H.out.h0.cell 0;have d1:=H.out.h1.cell 0;have f1:=H.out.h1.opn 0;have d2:=H.out.h2.cell 0;dsimp only [List.getElem?_cons_zero] at d0 d1 d2;by_cases hlt:k<fs.length;rotate_left
 · go_wp2
   have er:=World.cell?_setCell_same wr ⟨w.heap.size+1,0,none⟩ (.slice va gs.length vc) d1;refine bodyPost_ret (v:=.agg #[.slice va gs.length vc]) (by simp [results,Tryz.results67,go_sem,er]) rfl ⟨⟨_,gs,rfl,owns_mono (own_stW H.out.ho om_) om_,om_,(fun x hx=>by rw [hsub.out] at hx;exact List.mem_of_mem_take (List.mem_filter.1 hx).1),by rw [hsub.out,List.take_of_length_le om_]⟩,H.out.b.setCell sm_ _⟩
 rcases HC.out with hss | ⟨ha,hbw,hcell⟩
 · rw [hss] at hlt;exact absurd hlt (Nat.not_lt_zero _)
 subst ha;have g0:=(H.out.b.cell (p:=⟨b,off+k*2,none⟩) hbw).trans (hcell k hlt).1;have g1:=(H.out.b.cell (p:=⟨b,off+k*2+1,none⟩) hbw).trans (hcell k hlt).2;have HM:Hid (fs.take (k+1)=fs.take k++[fs.getD k f2z]):=by show _=_;rw [List.take_succ_eq_append_getElem hlt];simp [List.getD,hlt]
 generalize fs.getD k f2z=x at*;clear hcell HC;cases hne:(x.nm.toList==nm.toList);rotate_left
 · have HS:Hid (gs=(fs.take (k+1)).filter (nq nm)):=by show _=_;rw [HM.out,List.filter_append,<- hsub.out];simp [nq,hne]
   go_wp2;go_roundw
   case rel=>exact ⟨k+1,_,gs,by go_num,om_,om_,HS,H⟩
   case measure=>simp [intOf];omega
 go_wp2_with fail
 refine wp_region_L (S:=fun u=>u.cell? ⟨w.heap.size+1+1,0,none⟩=some (.slice va gs.length vc)/\u.cell? ⟨w.heap.size,0,none⟩=some (.slice (some ⟨b,off,none⟩) fs.length cap)/\u.cell? ⟨b,off+k*2,none⟩=some (.string x.nm)/\u.cell? ⟨b,off+k*2+1,none⟩=some (.string x.tx)) 10 kr_ ?_ fun hH=>?_
 · ((try dsimp only);go_keep)
 refine lq 0 hH ?_;refine lq 1 hH ?_;refine lq 2 hH ?_;refine lq 3 hH ?_;refine lq 4 hH ?_;refine lq 5 hH ?_
 try simp only [qq]
 refine lq 6 hH ?_
 try simp only [qq]
 refine lr (i:=7) (o:=⟨some 30,.buildSlice 24 1 #[(0,.tmp 29)],24,_,_,none⟩) rfl dc_ kr_ fun K hK=>?_;go_simp;obtain ⟨y,hy⟩:∃ y:World,y=(wr.alloc (.cells #[.string x.nm,.string x.tx] 40)).drew:=⟨_,rfl⟩;rw [<- hy];have hby:Below wr.heap.size wr y:=by rw [hy];exact bA_.drew
 have HS:Hid (Cl y wr.heap.size 40 [.string x.nm,.string x.tx]):=by show Cl _ _ _ _;rw [hy];exact cl_new wr _ 40
 have HY:=hdI (H.out.below hby);have hbz:=H.out.b.size;have e0:=(hby.cell (p:=⟨b,off+k*2,none⟩) (by show b<_;omega)).trans g0;have e1:=(hby.cell (p:=⟨b,off+k*2+1,none⟩) (by show b<_;omega)).trans g1;clear hy hH;refine hK.out _ _ ?_ fun hH=>?_
 · exact ⟨HY.out.h2.cell 0,HY.out.h0.cell 0,e0,e1⟩
 clear hK K
 try simp only [qq]
 refine lr (i:=8) (o:=⟨some 31,.call ⟨.builtin .append,#[.tmp 24,.tmp 30],#[24,24]⟩,24,_,_,none⟩) rfl dc_ kr_ fun K hK=>?_;refine st_app rfl _ _ 24 rfl (w.heap.size+3) 40 2 underlying24 inf40 dc_ _ gs.length _ rfl HY.out.ho _ 1 [.string x.nm,.string x.tx] rfl (.inr ⟨⟨wr.heap.size,0,none⟩,1,rfl,rfl,cl_row HS.out⟩) (by simp [Value.oneCell']) om_ HY.out.h2.lt ?_;intro v' y2 O2 g2 _;obtain ⟨va',vc',rfl⟩:=row_sl O2;obtain ⟨hB,hZ⟩:=HY.out.app (x:=x) O2 g2;have c2:=HY.out.h2.below hB om_;have HZ:=hdI hZ;clear hZ O2 g2 hH;refine hK.out _ _ ?_ fun hH=>?_
 · exact ⟨c2.cell 0,(HY.out.h0.below hB om_).cell 0,(hB.cell (by show b<_;omega)).trans e0,(hB.cell (by show b<_;omega)).trans e1⟩
 clear hK K
 try simp only [qq]
 refine lq 9 hH ?_
 try simp only [qq]
 refine lz (o:=⟨none,.store 24 (.tmp 32) (.tmp 31),0,_,_,none⟩) rfl kr_ fun K hK=>?_;have z2:=c2.cell 0;have zf:=c2.opn 0;dsimp only [List.getElem?_cons_zero] at z2;go_simp;clear hH;refine hK.out _ _ ?_;clear hK K
 try simp only [qq]
 refine wpL_done kr_ ?_ _;go_wp2;go_roundw
 case rel=>exact ⟨k+1,_,gs++[x],by go_num,om_,so_,by show _=_;rw [HM.out,List.filter_append,<- hsub.out];simp [nq,hne],HZ⟩
 case measure=>simp [intOf];omega
theorem run_copy2 (w:World) (ty:TypeId) (b o dLen dCap:Nat) (a:Addr) (sLen sCap n:Nat) (cs:List Value) (hn:Nat.min sLen dLen=n) (hl:cs.length=n*2)
 (hsrc:∀ j v,cs[j]?=some v->w.cell? (a.add j)=some v) (hc:∀ j,j<cs.length->(w.cell? ⟨b,o+j,none⟩).isSome=true) (hf:∀ j,w.frozen? ⟨b,j,none⟩=false) (h1:∀ v∈cs,v.oneCell'=true):
 (Builtin.copy_ #[24,24] ty #[.slice (some ⟨b,o,none⟩) dLen dCap,.slice (some a) sLen sCap]).run prog w=.ok (goInt n) (w.setCells b o cs):=by
 obtain ⟨i0,hi,hz0,hz1,hz2⟩:=info_parts info40;have hfc:=run_firstCells_some (P:=prog) w 2 n a sLen sCap cs hl hsrc;have hst:=run_storeCells_cells (P:=prog) b o cs 0 w (by simpa using hc) (fun j _=>hf _) h1;simp [Builtin.copy_,run_underlying underlying24,Builtin.lenOf,sizeOf,typeInfo,hi,hz1,hn,hfc,hst]
theorem wpList_copy_runI (w:World) {P:Program} {ops:Array Oper} {rest:List Oper} {o:Oper} {a:Act} {Q:Exit->Act->World->Prop} (hgd:o.guard=none) (d s:Operand) (t t':TypeId)
 (ho:o.op=.call { callee:=.builtin .copy,args:=#[d,s],argTypes:=#[t,t'] }) (v u:Value) (hd:a.eval d=v) (hs:a.eval s=u) {v':Value} {w':World}
 (hr:(Builtin.copy_ #[t,t'] o.type #[v,u]).run P w=.ok v' w') (h:wpList P ops Q rest (a.put o.dst v') w'):wpList P ops Q (o::rest) a w:=
 wpList_plain hgd fun K hK=>by
  unfold Oper.wp execOp;simp only [ho,resolve,invoke,builtin,Sem.run_bind,Sem.run_pure,Result.andThen_ok,List.map_toArray,List.map_cons,List.map_nil,hd,hs,hr];exact hK _ _ h
theorem step_copy_runI {P:Program} {ops:Array Oper} {o:Oper} {a:Act} {w:World} {K:Act->World->Prop} {Q:Exit->Act->World->Prop} {E:Prop}
 (hg:o.guard=none) (d x:Operand) (dT sT:TypeId) (hop:o.op=Op.call { callee:=Callee.builtin Builtin.copy,args:=#[d,x],argTypes:=#[dT,sT] })
 (v u:Value) (hd:a.eval d=v) (hx:a.eval x=u) {v':Value} {w':World} (hr:(Builtin.copy_ #[dT,sT] o.type #[v,u]).run P w=.ok v' w') (hK:K (a.put o.dst v') w'):
 if Region.wanted o (yielded ops a.tmps)=true then Oper.wp P o a w K Q else E:=by
 have hw:Region.wanted o (yielded ops a.tmps)=true:=by simp [Region.wanted,hg]
 rw [if_pos hw];unfold Oper.wp;simp [execOp,hop,resolve,invoke,builtin,hd,hx,hr,Result.andThen];exact hK
theorem size38:∀ w,(sizeOf 40).run prog w=.ok 2 w:=fun w=>by
 obtain ⟨i0,hi,hz0,hz1,hz2⟩:=info_parts info40;simp [sizeOf,typeInfo,hi,hz1]
theorem c87s (b c i vb:Nat) (fs:List F2) (x:F2) (w:World) (hi:i<fs.length) (hl:fs.length<=40) (hroom:fs.length+1<=c) (hvb:vb≠b)
 (hcs:∀ j v,(fileCells fs)[j]?=some v->w.cell? ⟨b,0+j,none⟩=some v) (hsp:∀ j,j<(fs.length+1)*2->(w.cell? ⟨b,j,none⟩).isSome=true) (hfz:∀ j,w.frozen? ⟨b,j,none⟩=false)
 (hvs:∀ j v,[Value.string x.nm,.string x.tx][j]?=some v->w.cell? ⟨vb,0+j,none⟩=some v)
 (tA tB:TypeId) (kA kB:Nat) (hsa:w.shape? vb=some (tA,kA)) (hsb:w.shape? b=some (tB,kB)) (hkB:kB≠0) (hfa:∀ j,w.frozen? ⟨vb,j,none⟩=false):
 Calls prog 87 #[.slice (some ⟨b,0,none⟩) fs.length c,.int .i64 i,.slice (some ⟨vb,0,none⟩) 1 1] w fun e w'=>
  e=.returned (.slice (some ⟨b,0,none⟩) (fs.length+1) c)/\w'=(w.drew.setCells b ((i+1)*2) (fileCells (fs.drop i))).setCells b (i*2) [.string x.nm,.string x.tx]:=by
 have hz2:¬ ((i:Int)=(fs.length:Int)):=om_;have hov:∀ lb cb,(callFunc 126 #[.slice (some ⟨vb,0,none⟩) 1 1,.slice (some ⟨b,(i+1)*2,none⟩) lb cb]).run prog w=.ok (.value (.bool false)) w:=fun lb cb=>by
  rw [run_callFunc_extern func126 kr_ kr_ kr_ (e:=Extern.SlicesOverlaps.overlaps #[24,24] #[4]) kr_,
   Lib.run_overlaps_apart w 24 4 40 underlying24 2 size38 ⟨vb,0,none⟩ ⟨b,(i+1)*2,none⟩ 1 1 lb cb hvb tA tB kA kB hsa hsb hkB (hfa _) (hfa _)]
  rfl
 have hdl:(fileCells (fs.drop i)).length=(fs.length - i)*2:=by rw [fileCells_len,List.length_drop]
 have hw1:IntKind.i64.wrap ((i:Int)+1)=(i:Int)+1:=by rw [show (i:Int)+1=((i+1:Nat):Int) by omega];exact wrap_nat (i+1) om_
 have hb1:(0:Int)<=(i:Int)+1:=om_;have hb6:(i:Int)+1<=(fs.length:Int)+1:=om_;have hin:i<=fs.length:=om_;have htn:((i:Int)+1).toNat=i+1:=om_;have hb2:¬ (c=i+1):=om_;have hb3:(i:Int)<=(fs.length:Int)+1:=om_;have hb4:¬ (c=i):=om_;have hb5:¬ (c<fs.length+1):=om_;have hcp1:∀ ty dc sc,(Builtin.copy_ #[24,24] ty #[.slice (some ⟨b,(i+1)*2,none⟩) (fs.length - i) dc,.slice (some ⟨b,i*2,none⟩) (fs.length+1 - i) sc]).run prog w.drew=.ok (goInt ((fs.length - i:Nat))) (w.drew.setCells b ((i+1)*2) (fileCells (fs.drop i))):=fun ty dc sc=>
  run_copy2 w.drew ty b ((i+1)*2) (fs.length - i) dc ⟨b,i*2,none⟩ (fs.length+1 - i) sc (fs.length - i) _ (by simp only [Nat.min_def];split <;> omega) hdl
   (fun j v hj=>by
    rw [addX];have hj':(fileCells fs)[i*2+j]?=some v:=by
     have e:fileCells fs=fileCells (fs.take i)++fileCells (fs.drop i):=by rw [<- fileCells_app,List.take_append_drop]
     rw [e,List.getElem?_append_right (by rw [fileCells_len,List.length_take];omega),fileCells_len,List.length_take,Nat.min_eq_left om_,Nat.add_sub_cancel_left];exact hj
    have:=hcs _ _ hj';rw [Nat.zero_add] at this;exact this)
   (fun j hj=>hsp _ (by rw [hdl] at hj;omega)) hfz fileCells_one
 obtain ⟨W1,hW1⟩:∃ W1,W1=w.drew.setCells b ((i+1)*2) (fileCells (fs.drop i)):=⟨_,rfl⟩;have hsp1:∀ k,k<(fs.length+1)*2->(W1.cell? ⟨b,k,none⟩).isSome=true:=fun k hk=>by
  rw [hW1];exact isSome_setCells b _ _ _ _ (hsp k hk)
 have hcp2:∀ (W:World),(∀ x,W.cell? x=W1.cell? x)->(∀ x,W.frozen? x=W1.frozen? x)->∀ ty dc,(Builtin.copy_ #[24,24] ty #[.slice (some ⟨b,i*2,none⟩) (fs.length+1 - i) dc,.slice (some ⟨vb,0,none⟩) 1 1]).run prog W=.ok (goInt 1) (W.setCells b (i*2) [.string x.nm,.string x.tx]):=fun W hWc hWf ty dc=>
  run_copy2 W ty b (i*2) (fs.length+1 - i) dc ⟨vb,0,none⟩ 1 1 1 [.string x.nm,.string x.tx] (by simp only [Nat.min_def];split <;> omega) rfl
   (fun j v hj=>by
    rw [addX,hWc,hW1,World.cell?_setCells_out b _ _ _ _ (fun h _=>absurd h hvb)];exact hvs j v hj)
   (fun j hj=>by rw [hWc];exact hsp1 _ (by simp at hj;omega)) (fun j=>by rw [hWf,hW1,World.frozen?_setCells];exact hfz _) (by intro v hv;simp at hv;rcases hv with rfl | rfl <;> rfl)
 rw [<- hW1] at hcp1;clear hcs hsp hfz hvs hfa hsa hsb hsp1 hdl;go_enter func87,ntmps87
 go_wp2_with (simp only [hov])
 go_region_law (refine step_copy_runI rfl _ _ 24 24 rfl _ _ (by simp [Act.eval,Act.put]) (by simp [Act.eval,Act.put]) (hcp1 _ _ _) ?_)
 go_wp2_with (at_builtin;refine wpList_copy_runI _ rfl _ _ 24 24 rfl _ _ rfl rfl (hcp2 _ (fun _=>rfl) (fun _=>rfl) _ _) ?_)
 go_ret
 first | exact ⟨rfl,rfl⟩ | exact ⟨rfl,by rw [hW1]⟩
theorem c87g (b c i vb:Nat) (fs:List F2) (x:F2) (w:World) (hi:i<fs.length) (hl:fs.length<=40) (hnc:fs.length<=c) (hroom:c<fs.length+1) (hbw:b<w.heap.size) (hvw:vb<w.heap.size)
 (hcs:∀ j v,(fileCells fs)[j]?=some v->w.cell? ⟨b,0+j,none⟩=some v)
 (hvs:∀ j v,[Value.string x.nm,.string x.tx][j]?=some v->w.cell? ⟨vb,0+j,none⟩=some v):
 Calls prog 87 #[.slice (some ⟨b,0,none⟩) fs.length c,.int .i64 i,.slice (some ⟨vb,0,none⟩) 1 1] w fun e w'=>∃ (G:Nat) (ROW:Array Value),fs.length+1<=G/\(fs.length+1)*2<=ROW.size/\(∀ j,j<i*2->ROW[j]?=(fileCells fs)[j]?)/\
  e=.returned (.slice (some ⟨w.heap.size,0,none⟩) (fs.length+1) G)/\
  w'=(((w.alloc (.cells ROW 40)).drew.setCells w.heap.size (i*2) [.string x.nm,.string x.tx]).drew).setCells w.heap.size ((i+1)*2) (fileCells (fs.drop i)):=by
 obtain ⟨i0,hi0,hz0,hzs,hzb⟩:=info_parts info40;have hz2:¬ ((i:Int)=(fs.length:Int)):=om_;have hz3:(c:Int)<(fs.length:Int)+1:=om_;have hkk:(fs.length:Int)+1 - (i:Int)=((fs.length+1 - i:Nat):Int):=om_;have hik:i+(fs.length+1 - i)=fs.length+1:=om_;have hold:(Builtin.firstCells i0.size i (.slice (some ⟨b,0,none⟩) i c)).run prog w.drew=.ok (fileCells (fs.take i)).toArray w.drew:=by
  rw [hzs];exact run_firstCells_some w.drew 2 i ⟨b,0,none⟩ i c (fileCells (fs.take i)) (by rw [fileCells_len,List.length_take];omega) (fun j v hj=>by
   rw [addX];refine hcs j v ?_;have hjl:j<i*2:=by have:=(List.getElem?_eq_some_iff.1 hj).1;rw [fileCells_len,List.length_take] at this;omega
   have e:fileCells fs=fileCells (fs.take i)++fileCells (fs.drop i):=by rw [<- fileCells_app,List.take_append_drop]
   rw [e,List.getElem?_append_left (by rw [fileCells_len,List.length_take];omega)];exact hj)
 have hrz:∀ ty,(Builtin.append_ #[24,3] ty #[.slice (some ⟨b,0,none⟩) i c,.int .i64 ((fs.length:Int)+1 - (i:Int))]).run prog w=
  .ok (.slice (some ⟨w.heap.size,0,none⟩) (fs.length+1) (grownCap w (fs.length+1) c 40)) (w.drew.alloc (.cells ((fileCells (fs.take i)).toArray++Builtin.zeroCells (Value.agg #[.string ⟨#[]⟩,.string ⟨#[]⟩]).cells (fs.length+1 - i)++Builtin.zeroCells (Value.agg #[.string ⟨#[]⟩,.string ⟨#[]⟩]).cells (grownCap w (fs.length+1) c 40 - (fs.length+1))) 40)):=fun ty=>by
  have h:=Lib.run_append_grow_zeros w 24 3 ty 40 i0 _ .i64 .i64 underlying24 underlying3 hi0 hz0 (some ⟨b,0,none⟩) i c (fileCells (fs.take i)) hold (fs.length+1 - i) om_ om_ om_ om_ (by rw [hzb];omega) (by rw [hzb,hik];exact growslice_fits hroom om_);rw [hik] at h;rw [hkk];exact h
 obtain ⟨G,hG⟩:∃ G,G=grownCap w (fs.length+1) c 40:=⟨_,rfl⟩;obtain ⟨ROW,hROW⟩:∃ ROW:Array Value,ROW=(fileCells (fs.take i)).toArray++Builtin.zeroCells (Value.agg #[.string ⟨#[]⟩,.string ⟨#[]⟩]).cells (fs.length+1 - i)++Builtin.zeroCells (Value.agg #[.string ⟨#[]⟩,.string ⟨#[]⟩]).cells (G - (fs.length+1)):=⟨_,rfl⟩;rw [<- hG] at hrz;rw [<- hROW] at hrz;have hRl:(fs.length+1)*2<=ROW.size:=by
  rw [hROW];simp [Builtin.zeroCells,Value.cells,fileCells_len];omega
 have hR1:∀ j,j<i*2->ROW[j]?=(fileCells fs)[j]?:=fun j hj=>by
  have e:fileCells fs=fileCells (fs.take i)++fileCells (fs.drop i):=by rw [<- fileCells_app,List.take_append_drop]
  have hlen:(fileCells (fs.take i)).length=i*2:=by rw [fileCells_len,List.length_take];omega
  rw [hROW,e,List.getElem?_append_left om_,Array.append_assoc,Array.getElem?_append_left (by simpa using (by omega:j<(fileCells (fs.take i)).length))];simp
 obtain ⟨W1,hW1⟩:∃ W1,W1=w.drew.alloc (.cells ROW 40):=⟨_,rfl⟩;rw [<- hW1] at hrz;have hh:(w.drew.alloc (.cells ROW 40)).heap[w.heap.size]?=some (.cells ROW 40 (0,0)):=alloc_new (w:=w.drew) rfl _;have hN:∀ j,j<(fs.length+1)*2->(W1.cell? ⟨w.heap.size,j,none⟩).isSome=true:=fun j hj=>by
  rw [hW1,Lib.cell_of_heap hh,Array.getElem?_eq_getElem om_];rfl
 have hNf:∀ j,W1.frozen? ⟨w.heap.size,j,none⟩=false:=fun j=>by rw [hW1];exact Lib.frozen_of_heap hh j
 have hO:∀ q j v,q<w.heap.size->w.cell? ⟨q,j,none⟩=some v->W1.cell? ⟨q,j,none⟩=some v:=fun q j v hq h=>by rw [hW1,World.cell?_alloc_lt _ _ _ (by exact hq)];exact h
 have hcpA:∀ (W:World),(∀ x,W.cell? x=W1.cell? x)->(∀ x,W.frozen? x=W1.frozen? x)->∀ ty dc,(Builtin.copy_ #[24,24] ty #[.slice (some ⟨w.heap.size,i*2,none⟩) (fs.length+1 - i) dc,.slice (some ⟨vb,0,none⟩) 1 1]).run prog W=.ok (goInt 1) (W.setCells w.heap.size (i*2) [.string x.nm,.string x.tx]):=fun W hWc hWf ty dc=>
  run_copy2 W ty w.heap.size (i*2) (fs.length+1 - i) dc ⟨vb,0,none⟩ 1 1 1 [.string x.nm,.string x.tx] (by simp only [Nat.min_def];split <;> omega) rfl
   (fun j v hj=>by rw [addX,hWc];exact hO _ _ v hvw (hvs j v hj))
   (fun j hj=>by rw [hWc];exact hN _ (by simp at hj;omega)) (fun j=>by rw [hWf];exact hNf _) (by intro v hv;simp at hv;rcases hv with rfl | rfl <;> rfl)
 have hGn:fs.length+1<=G:=by rw [hG];exact grownCap_ge w _ _ _
 have hG63:G<=9223372036854775807:=by
  have:=grownCap_le_maxLen w (fs.length+1) c 40 (by unfold maxLen;omega);rw [<- hG] at this;unfold maxLen at this;omega
 have hGi:¬ (G=i):=om_;have hGim:¬ (G=i+1):=om_;have hci:¬ (c=i):=om_;have hbN:b≠w.heap.size:=om_;have hdl:(fileCells (fs.drop i)).length=(fs.length - i)*2:=by rw [fileCells_len,List.length_drop]
 have hcpB:∀ (W:World),(∀ y,W.cell? y=(W1.setCells w.heap.size (i*2) [.string x.nm,.string x.tx]).cell? y)->(∀ y,W.frozen? y=(W1.setCells w.heap.size (i*2) [.string x.nm,.string x.tx]).frozen? y)->∀ ty dl dc sc,dl=fs.length - i->(Builtin.copy_ #[24,24] ty #[.slice (some ⟨w.heap.size,(i+1)*2,none⟩) dl dc,.slice (some ⟨b,i*2,none⟩) (fs.length - i) sc]).run prog W=.ok (goInt ((fs.length - i:Nat))) (W.setCells w.heap.size ((i+1)*2) (fileCells (fs.drop i))):=fun W hWc hWf ty dl dc sc hdle=>
  run_copy2 W ty w.heap.size ((i+1)*2) dl dc ⟨b,i*2,none⟩ (fs.length - i) sc (fs.length - i) _ (by rw [hdle];simp only [Nat.min_def];split <;> omega) hdl
   (fun j v hj=>by
    rw [addX,hWc,World.cell?_setCells_out _ _ _ _ _ (fun h _=>absurd h hbN)];have hj':(fileCells fs)[i*2+j]?=some v:=by
     have e:fileCells fs=fileCells (fs.take i)++fileCells (fs.drop i):=by rw [<- fileCells_app,List.take_append_drop]
     rw [e,List.getElem?_append_right (by rw [fileCells_len,List.length_take];omega),fileCells_len,List.length_take,Nat.min_eq_left om_,Nat.add_sub_cancel_left];exact hj
    have:=hcs _ _ hj';rw [Nat.zero_add] at this;exact hO _ _ v hbw this)
   (fun j hj=>by rw [hWc];exact isSome_setCells _ _ _ _ _ (hN _ (by rw [hdl] at hj;omega)))
   (fun j=>by rw [hWf,World.frozen?_setCells];exact hNf _) fileCells_one
 subst hW1;have hE1:∀ x,((w.alloc (.cells ROW 40)).drew).cell? x=(w.drew.alloc (.cells ROW 40)).cell? x:=fun x=>rfl;have hE2:∀ x,((w.alloc (.cells ROW 40)).drew).frozen? x=(w.drew.alloc (.cells ROW 40)).frozen? x:=fun x=>rfl;have hF1:∀ y,(((w.alloc (.cells ROW 40)).drew.setCells w.heap.size (i*2) [.string x.nm,.string x.tx]).drew).cell? y=((w.drew.alloc (.cells ROW 40)).setCells w.heap.size (i*2) [.string x.nm,.string x.tx]).cell? y:=fun x=>rfl;have hF2:∀ y,(((w.alloc (.cells ROW 40)).drew.setCells w.heap.size (i*2) [.string x.nm,.string x.tx]).drew).frozen? y=((w.drew.alloc (.cells ROW 40)).setCells w.heap.size (i*2) [.string x.nm,.string x.tx]).frozen? y:=fun x=>rfl;have hw1:IntKind.i64.wrap ((i:Int)+1)=(i:Int)+1:=by rw [show (i:Int)+1=((i+1:Nat):Int) by omega];exact wrap_nat (i+1) om_
 have hb1:(0:Int)<=(i:Int)+1:=om_;have hin:i<=fs.length:=om_;have htn:((i:Int)+1).toNat=i+1:=om_;have hb3:(i:Int)<=(fs.length:Int):=om_;have hb6:(i:Int)+1<=(fs.length:Int)+1:=om_;have HPOST:Hid (fs.length+1<=G/\(fs.length+1)*2<=ROW.size/\(∀ j,j<i*2->ROW[j]?=(fileCells fs)[j]?)):=⟨hGn,hRl,hR1⟩;clear hh hkk hik hold hROW hG hRl hR1 hcs hvs hN hNf hO hdl;go_enter func87,ntmps87
 go_wp2_with (first
  | (at_builtin;refine Lib.wpList_append_run _ rfl _ _ _ _ rfl _ _ rfl rfl _ _ (hrz _) ?_)
  | (at_builtin;refine wpList_copy_runI _ rfl _ _ 24 24 rfl _ _ rfl rfl (hcpA _ hE1 hE2 _ _) ?_))
 go_region_law (first | (refine step_copy_runI rfl _ _ 24 24 rfl (.slice (some ⟨w.heap.size,(i+1)*2,none⟩) (fs.length+1 - (i+1)) (G - (i+1))) (.slice (some ⟨b,i*2,none⟩) (fs.length - i) (c - i)) (by simp [Act.eval,Act.put]) (by simp [Act.eval,Act.put]) (hcpB _ hF1 hF2 3 (fs.length+1 - (i+1)) (G - (i+1)) (c - i) om_) ?_) | (refine step_copy_runI rfl _ _ 24 24 rfl (.slice (some ⟨w.heap.size,(i+1)*2,none⟩) (fs.length - i) (G - (i+1))) (.slice (some ⟨b,i*2,none⟩) (fs.length - i) (c - i)) (by simp [Act.eval,Act.put]) (by simp [Act.eval,Act.put]) (hcpB _ hF1 hF2 3 (fs.length - i) (G - (i+1)) (c - i) om_) ?_))
 go_wp2;go_ret;exact ⟨G,ROW,HPOST.out.1,HPOST.out.2.1,HPOST.out.2.2,rfl,rfl⟩
theorem ins_lo {fs:List F2} {i j:Nat} {x:F2} (h:i<=fs.length) (hj:j<i):(ins fs i x).getD j f2z=fs.getD j f2z:=by
 unfold ins;simp only [List.getD];rw [List.getElem?_append_left (by rw [List.length_take];omega),List.getElem?_take_of_lt hj]
theorem ins_mid {fs:List F2} {i:Nat} {x:F2} (h:i<=fs.length):(ins fs i x).getD i f2z=x:=by
 unfold ins;simp only [List.getD];rw [List.getElem?_append_right (by rw [List.length_take];omega),List.length_take,Nat.min_eq_left h,Nat.sub_self];rfl
theorem ins_hi {fs:List F2} {i j:Nat} {x:F2} (h:i<=fs.length) (hj:i<j):(ins fs i x).getD j f2z=(fs.drop i).getD (j - i - 1) f2z:=by
 unfold ins;simp only [List.getD];rw [List.getElem?_append_right (by rw [List.length_take];omega),List.length_take,Nat.min_eq_left h];obtain ⟨k,hk⟩:∃ k,j - i=k+1:=⟨j - i - 1,om_⟩;rw [hk,List.getElem?_cons_succ,Nat.add_sub_cancel]
theorem ins_cells {W:World} {b i:Nat} {fs:List F2} {x:F2} (hi:i<=fs.length) (hb:b<W.heap.size)
 (lo:∀ j,j<i*2->W.cell? ⟨b,j,none⟩=(fileCells fs)[j]?) (m0:W.cell? ⟨b,i*2,none⟩=some (.string x.nm)) (m1:W.cell? ⟨b,i*2+1,none⟩=some (.string x.tx))
 (up:∀ j,j<(fs.length - i)*2->W.cell? ⟨b,(i+1)*2+j,none⟩=(fileCells (fs.drop i))[j]?):FilesAt W (some ⟨b,0,none⟩) (ins fs i x):=by
 refine .inr ⟨b,0,rfl,hb,fun j hj=>?_⟩;rw [ins_len _ _ _ hi] at hj;rw [Nat.zero_add];rcases Nat.lt_trichotomy j i with h | h | h
 · rw [ins_lo hi h,lo _ om_,lo _ om_]
   exact fileCells_get fs j om_
 · subst h
   rw [ins_mid hi];exact ⟨m0,m1⟩
 · rw [ins_hi hi h]
   have e:=fileCells_get (fs.drop i) (j - i - 1) (by rw [List.length_drop];omega);have u0:=up ((j - i - 1)*2) om_;have u1:=up ((j - i - 1)*2+1) om_;rw [show (i+1)*2+(j - i - 1)*2=j*2 by omega] at u0;rw [show (i+1)*2+((j - i - 1)*2+1)=j*2+1 by omega] at u1;rw [u0,u1];exact e
theorem own_new {w:World} {B:Nat} {v:Value} {gs:List F2} (h:OwnF w B v gs) {p:Nat} (hp:p<gs.length):∃ a cap,v=.slice a gs.length cap/\NewF B w a gs:=by
 obtain ⟨g,cap,hv,hg,hnc,hcel,hfz,hgw⟩:=own_parts h hp;have hf:FilesAt w (some ⟨g,0,none⟩) gs:=.inr ⟨g,0,rfl,hgw,fun i hi=>by rw [Nat.zero_add];exact hcel i hi⟩;exact ⟨_,cap,hv,hf,.inr ⟨g,rfl,hg,open_of_files hf hgw hfz,own_of4 h hv⟩⟩
theorem ins_end (fs:List F2) (x:F2):ins fs fs.length x=fs++[x]:=by unfold ins;rw [List.take_length,List.drop_length]
def IsIns (B:Nat) (gs:List F2) (n:Nat) (e:Ending) (w':World):Prop:=∃ a' cap',e=.returned (.slice a' n cap')/\NewF B w' a' gs
theorem c87e (B vb:Nat) (av:Option Addr) (cv:Nat) (fs:List F2) (x:F2) (w:World) (hown:OwnF w B (.slice av fs.length cv) fs) (hl:fs.length<=40) (hB:B<=w.heap.size)
 (hvs:∀ j v,[Value.string x.nm,.string x.tx][j]?=some v->w.cell? ((⟨vb,0,none⟩:Addr).add j)=some v):
 Calls prog 87 #[.slice av fs.length cv,.int .i64 fs.length,.slice (some ⟨vb,0,none⟩) 1 1] w fun e w'=>IsIns B (ins fs fs.length x) (fs.length+1) e w'/\Below B w w':=by
 obtain ⟨i0,hi,hz0,hz1,hz2⟩:=info_parts info40;have hcv:=own_cap hown;have hlt:=hown.lt;have hownR:w.ownsRow B 40 2 (.slice av fs.length cv) fs.length (fileCells fs):=hown;have HV:Hid (∀ j v,[Value.string x.nm,.string x.tx][j]?=some v->w.cell? ((⟨vb,0,none⟩:Addr).add j)=some v):=hvs;clear hown hvs;go_enter func87,ntmps87
 go_wp2_with (at_builtin;refine wpList_append_own _ rfl _ _ 24 rfl B 40 i0 (.agg #[.string ⟨#[]⟩,.string ⟨#[]⟩]) 2 32 underlying24 hi hz0 hz1 hz2 rfl dc_ _ _ _ rfl hownR ⟨vb,0,none⟩ 1 1 [.string x.nm,.string x.tx] rfl rfl HV.out (by intro u hu;simp at hu;rcases hu with rfl | rfl <;> rfl) (by unfold maxLen;omega) om_ hB ?_;intro v' w1 hown' hgrow _)
 all_goals
  have HB:Hid (Below B w w1):=(Below.refl B w).grown hgrow hB (fun k hk=>(hlt k hk).1);have HO:Hid (OwnF w1 B v' (fs++[x])):=by
   show w1.ownsRow B 40 2 v' (fs++[x]).length (fileCells (fs++[x]));rw [fileCells_app,List.length_append];exact hown'
  obtain ⟨a',cap',hv',hnew⟩:=own_new HO.out (p:=fs.length) sm_;have HN:Hid (NewF B w1 a' (ins fs fs.length x)):=by rw [ins_end];exact hnew
  have hv'':v'=.slice a' (fs.length+1) cap':=by rw [hv'];simp
  subst hv'';clear hown' hgrow hnew hv';go_wp2;go_ret;exact ⟨⟨a',cap',rfl,HN.out⟩,HB.out⟩
theorem in_cell {b o:Nat} {vs:List Value} {w:World} (h:∀ j,j<vs.length->(w.cell? ⟨b,o+j,none⟩).isSome=true) (j:Nat) (hj:j<vs.length):(w.setCells b o vs).cell? ⟨b,o+j,none⟩=vs[j]?:=by
 rw [World.cell?_setCells_in b vs o w h j hj,List.getElem?_eq_getElem hj]
theorem out_cell {b o q:Nat} {vs:List Value} {w:World} (h:q<o\/o+vs.length<=q):(w.setCells b o vs).cell? ⟨b,q,none⟩=w.cell? ⟨b,q,none⟩:=World.cell?_setCells_out b vs o w _ (fun _ _=>h)
theorem c87 (B vb p:Nat) (av:Option Addr) (cv:Nat) (fs:List F2) (x:F2) (w:World) (hown:OwnF w B (.slice av fs.length cv) fs) (hp:p<=fs.length) (hl:fs.length<=40) (hB:B<=w.heap.size)
 (hvb:w.heap[vb]?=some (.cells #[.string x.nm,.string x.tx] 40 (0,0))) (hne:∀ k,(Value.slice av fs.length cv).ownBlock=some k->vb≠k):
 Calls prog 87 #[.slice av fs.length cv,.int .i64 p,.slice (some ⟨vb,0,none⟩) 1 1] w fun e w'=>IsIns B (ins fs p x) (fs.length+1) e w'/\Below B w w':=by
 have hvw:vb<w.heap.size:=blk_lt hvb;have hvs:∀ j v,[Value.string x.nm,.string x.tx][j]?=some v->w.cell? ⟨vb,0+j,none⟩=some v:=fun j v h=>by
  rw [Nat.zero_add,Lib.cell_of_heap hvb];simpa using h
 have hdl:(fileCells (fs.drop p)).length=(fs.length - p)*2:=by rw [fileCells_len,List.length_drop]
 by_cases hpe:p=fs.length
 · subst hpe
   exact c87e B vb av cv fs x w hown hl hB (fun j v h=>by rw [addX];exact hvs j v h)
 have hpl:p<fs.length:=om_;have hown':=hown;rcases hown.2 with ⟨hv,h0⟩ | ⟨g,cap,cur,hv,hg,hh,hnc,hcm,hcs,htk⟩
 · omega
 injection hv with e1 e2 e3;subst e1;subst e3;have hgw:g<w.heap.size:=blk_lt hh;have hvg:vb≠g:=hne g rfl;have hcel:∀ j,j<fs.length*2->w.cell? ⟨g,j,none⟩=(fileCells fs)[j]?:=fun j hj=>hown'.cellAt j hj;have hcs':∀ j v,(fileCells fs)[j]?=some v->w.cell? ⟨g,0+j,none⟩=some v:=fun j v h=>by
  have:j<fs.length*2:=by rw [<- fileCells_len];exact (List.getElem?_eq_some_iff.1 h).1
  rw [Nat.zero_add,hcel j this];exact h
 by_cases hroom:fs.length+1<=cv
 · have hsp:∀ j,j<(fs.length+1)*2->(w.cell? ⟨g,j,none⟩).isSome=true:=fun j hj=>by
    rw [Lib.cell_of_heap hh,Array.getElem?_eq_getElem (by rw [hcs];omega)];rfl
   have hfz:∀ j,w.frozen? ⟨g,j,none⟩=false:=fun j=>Lib.frozen_of_heap hh j;refine (c87s g cv p vb fs x w hpl hl hroom hvg hcs' hsp hfz hvs 40 40 2 cur.size (by simp [World.shape?,hvb]) (by simp [World.shape?,hh]) om_ (fun j=>Lib.frozen_of_heap hvb j)).mono ?_;rintro e w' ⟨rfl,rfl⟩;have hbu:But g w ((w.drew.setCells g ((p+1)*2) (fileCells (fs.drop p))).setCells g (p*2) [.string x.nm,.string x.tx]):=But.setCells g _ _ (But.setCells g _ _ (But.refl _ _).drew);have hs1:∀ j,j<(fs.length+1)*2->((w.drew.setCells g ((p+1)*2) (fileCells (fs.drop p))).cell? ⟨g,j,none⟩).isSome=true:=fun j hj=>isSome_setCells g _ _ _ _ (hsp j hj);have hfw:∀ j,((w.drew.setCells g ((p+1)*2) (fileCells (fs.drop p))).setCells g (p*2) [.string x.nm,.string x.tx]).frozen? ⟨g,j,none⟩=false:=fun j=>by rw [World.frozen?_setCells,World.frozen?_setCells];exact hfz j
   have hgz:g<((w.drew.setCells g ((p+1)*2) (fileCells (fs.drop p))).setCells g (p*2) [.string x.nm,.string x.tx]).heap.size:=Nat.lt_of_lt_of_le hgw hbu.size;have hin:∀ j,j<2->((w.drew.setCells g ((p+1)*2) (fileCells (fs.drop p))).setCells g (p*2) [.string x.nm,.string x.tx]).cell? ⟨g,p*2+j,none⟩=[Value.string x.nm,.string x.tx][j]?:=fun j hj=>in_cell (fun q hq=>hs1 _ (by simp at hq;omega)) j (by simpa using hj);have hF:=ins_cells (x:=x) hp hgz
    (fun j hj=>by rw [out_cell (.inl hj),out_cell (.inl om_)];exact hcel j om_)
    (hin 0 om_) (hin 1 om_)
    (fun j hj=>by rw [out_cell (.inr so_)];exact in_cell (w:=w.drew) (o:=(p+1)*2) (fun q hq=>hsp ((p+1)*2+q) (by rw [hdl] at hq;omega)) j (by rw [hdl];exact hj))
   refine ⟨⟨_,_,rfl,hF,.inr ⟨g,rfl,hg,open_of_files hF hgz hfw,of4_sets _ _ _ (of4_sets (w:=w.drew) _ _ _ ⟨_,_,hh⟩)⟩⟩,hbu.below hg hB⟩
 · refine (c87g g cv p vb fs x w hpl hl hnc om_ hgw hvw hcs' hvs).mono ?_
   rintro e w' ⟨G,ROW,hG,hR,hR1,rfl,rfl⟩;have hbl:Below w.heap.size w (w.alloc (.cells ROW 40)).drew:=bA_.drew;have hh1:(w.alloc (.cells ROW 40)).drew.heap[w.heap.size]?=some (.cells ROW 40 (0,0)):=alloc_new (w:=w) rfl _;have hN:∀ j,j<(fs.length+1)*2->((w.alloc (.cells ROW 40)).drew.cell? ⟨w.heap.size,j,none⟩).isSome=true:=fun j hj=>by
    rw [Lib.cell_of_heap hh1,Array.getElem?_eq_getElem om_];rfl
   have hbu:But w.heap.size w ((((w.alloc (.cells ROW 40)).drew.setCells w.heap.size (p*2) [.string x.nm,.string x.tx]).drew).setCells w.heap.size ((p+1)*2) (fileCells (fs.drop p))):=But.setCells _ _ _ (But.setCells _ _ _ (But.of_below hbl)).drew;have hs1:∀ j,j<(fs.length+1)*2->(((w.alloc (.cells ROW 40)).drew.setCells w.heap.size (p*2) [.string x.nm,.string x.tx]).drew.cell? ⟨w.heap.size,j,none⟩).isSome=true:=fun j hj=>isSome_setCells _ _ _ _ _ (hN j hj);have hgz:w.heap.size<((((w.alloc (.cells ROW 40)).drew.setCells w.heap.size (p*2) [.string x.nm,.string x.tx]).drew).setCells w.heap.size ((p+1)*2) (fileCells (fs.drop p))).heap.size:=by
    have h1:But w.heap.size (w.alloc (.cells ROW 40)).drew ((((w.alloc (.cells ROW 40)).drew.setCells w.heap.size (p*2) [.string x.nm,.string x.tx]).drew).setCells w.heap.size ((p+1)*2) (fileCells (fs.drop p))):=But.setCells _ _ _ (But.setCells _ _ _ (But.refl _ _)).drew;exact Nat.lt_of_lt_of_le (blk_lt hh1) h1.size
   have hfw:∀ j,((((w.alloc (.cells ROW 40)).drew.setCells w.heap.size (p*2) [.string x.nm,.string x.tx]).drew).setCells w.heap.size ((p+1)*2) (fileCells (fs.drop p))).frozen? ⟨w.heap.size,j,none⟩=false:=fun j=>by
    rw [World.frozen?_setCells];exact (World.frozen?_setCells _ _ _ _ _).trans (Lib.frozen_of_heap hh1 j)
   have hin:∀ j,j<2->((((w.alloc (.cells ROW 40)).drew.setCells w.heap.size (p*2) [.string x.nm,.string x.tx]).drew).setCells w.heap.size ((p+1)*2) (fileCells (fs.drop p))).cell? ⟨w.heap.size,p*2+j,none⟩=[Value.string x.nm,.string x.tx][j]?:=fun j hj=>by
    rw [out_cell (.inl om_)];exact in_cell (w:=(w.alloc (.cells ROW 40)).drew) (fun q hq=>hN _ (by simp at hq;omega)) j (by simpa using hj)
   have hF:=ins_cells (x:=x) hp hgz
    (fun j hj=>by
     rw [out_cell (.inl om_)];exact ((out_cell (w:=(w.alloc (.cells ROW 40)).drew) (.inl hj)).trans (Lib.cell_of_heap hh1 j)).trans (hR1 j hj))
    (hin 0 om_) (hin 1 om_)
    (fun j hj=>in_cell (fun q hq=>hs1 _ (by rw [hdl] at hq;omega)) j (by rw [hdl];exact hj))
   refine ⟨⟨_,_,rfl,hF,.inr ⟨w.heap.size,rfl,hB,open_of_files hF hgz hfw,of4_sets (w:=((w.alloc (.cells ROW 40)).drew.setCells w.heap.size (p*2) [.string x.nm,.string x.tx]).drew) _ _ _ (show Of4 ((w.alloc (.cells ROW 40)).drew.setCells w.heap.size (p*2) [.string x.nm,.string x.tx]) _ from of4_sets _ _ _ ⟨_,_,hh1⟩)⟩⟩,hbu.below hB hB⟩
theorem lt_asym {a b:ByteArray} (h:lt a b=true):lt b a=false:=by
 cases hb:lt b a
 · rfl
 · have:=lt_trans' h hb;rw [lt_irrefl'] at this;cases this
theorem del_take {fs:List F2} {p:Nat} (h:p<fs.length):(del fs p).take p=fs.take p:=by
 unfold del;rw [List.take_append_of_le_length (by rw [List.length_take];omega),List.take_take,Nat.min_self]
theorem del_drop {fs:List F2} {p:Nat} (h:p<fs.length):(del fs p).drop p=fs.drop (p+1):=by
 unfold del;rw [List.drop_append_of_le_length (by rw [List.length_take];omega),List.drop_take,Nat.sub_self,List.take_zero,List.nil_append]
def put (fs:List F2) (p:Nat) (x:F2):List F2:=fs.take p++x::fs.drop (p+1)
theorem put_ins {fs:List F2} {p:Nat} {x:F2} (h:p<fs.length):ins (del fs p) p x=put fs p x:=by unfold ins put;rw [del_take h,del_drop h]
theorem put_len {fs:List F2} {p:Nat} {x:F2} (h:p<fs.length):(put fs p x).length=fs.length:=by
 unfold put;rw [List.length_append,List.length_cons,List.length_take,List.length_drop];omega
theorem put_same {fs:List F2} {p:Nat} {x:F2} (h:p<fs.length):(put fs p x).getD p f2z=x:=by
 unfold put;simp only [List.getD];rw [List.getElem?_append_right (by rw [List.length_take];omega),List.length_take,Nat.min_eq_left om_,Nat.sub_self];rfl
theorem put_other {fs:List F2} {p i:Nat} {x:F2} (h:p<fs.length) (hi:i≠p):(put fs p x).getD i f2z=fs.getD i f2z:=by
 unfold put;simp only [List.getD];rcases Nat.lt_or_ge i p with h1 | h1
 · rw [List.getElem?_append_left (by rw [List.length_take];omega),List.getElem?_take_of_lt h1]
 · rw [List.getElem?_append_right (by rw [List.length_take];omega),List.length_take,Nat.min_eq_left om_]
   obtain ⟨k,hk⟩:∃ k,i - p=k+1:=⟨i - p - 1,om_⟩;rw [hk,List.getElem?_cons_succ,List.getElem?_drop]
   congr 2
   omega
theorem setR_put {fs:List F2} {x:F2} {p:Nat} (hok:treeOk fs) (hfx:fileOk x=true) (hp:Place fs x.nm p true):p<fs.length/\SetR fs x 0 (put fs p x):=by
 obtain ⟨hpl,hpn⟩:=hp.here.1 rfl;have ha:=asc_of hok;have hw:without fs x.nm=del fs p:=by rw [<- hpn];exact without_del ha hpl
 have hdl:=del_len hpl;refine ⟨hpl,.inr (.inr (.inr ⟨hok,hfx,by rw [hw,hdl];have:=hok.1;omega,rfl,p,?_,by rw [hw,put_ins hpl]⟩))⟩;rw [hw];refine ⟨om_,fun j hj=>by rw [del_lo hpl hj];exact hp.less j hj,?_⟩;rcases Nat.lt_or_ge p (del fs p).length with h | h
 · right
   rw [del_hi hpl lr_,Nat.sub_self,drop_getD,Nat.add_zero];have:=ha p (p+1) om_ om_;rw [hpn] at this;exact lt_asym this
 · left;omega
theorem setR_ins {fs:List F2} {x:F2} {p:Nat} (hok:treeOk fs) (hfx:fileOk x=true) (hp:Place fs x.nm p false):(40<=fs.length->SetR fs x 3 [])/\(fs.length<40->SetR fs x 0 (ins fs p x)):=by
 have hno:∀ i,i<fs.length->(fs.getD i f2z).nm≠x.nm:=fun i hi e=>by
  rcases Nat.lt_or_ge i p with h | h
  · have:=hp.less i h;rw [e,lt_irrefl'] at this;cases this
  · rcases Nat.lt_or_ge p i with h1 | h1
    · have h2:=asc_of hok p i h1 hi
      rw [e,hp.more p lr_ om_] at h2;cases h2
    · obtain rfl:i=p:=om_
      have:=hp.here.2 ⟨hi,e⟩;cases this
 have hw:=filter_all hno;refine ⟨fun h=>.inr (.inr (.inl ⟨hok,hfx,by rw [hw];exact h,rfl,rfl⟩)),fun h=>.inr (.inr (.inr ⟨hok,hfx,by rw [hw];exact h,rfl,p,?_,by rw [hw]⟩))⟩;rw [hw];refine ⟨hp.le,hp.less,?_⟩;rcases Nat.lt_or_ge p fs.length with h1 | h1
 · exact .inr (hp.more p lr_ h1)
 · left;have:=hp.le;omega
theorem put_files {u:World} {g p:Nat} {fs:List F2} {x:F2} (hp:p<fs.length) (hg:g<u.heap.size) (hc:∀ i,i<fs.length->u.cell? ⟨g,i*2,none⟩=some (.string (fs.getD i f2z).nm)/\u.cell? ⟨g,i*2+1,none⟩=some (.string (fs.getD i f2z).tx)):
 FilesAt ((u.setCell ⟨g,p*2,none⟩ (.string x.nm)).setCell ⟨g,p*2+1,none⟩ (.string x.tx)) (some ⟨g,0,none⟩) (put fs p x):=by
 refine .inr ⟨g,0,rfl,by simpa using hg,fun i hi=>?_⟩;rw [put_len hp] at hi;rw [Nat.zero_add];by_cases h:i=p
 · subst h
   rw [put_same hp];exact set2_at u g (i*2) _ _ _ _ (hc i hi).1 (hc i hi).2
 · rw [put_other hp h,set2_other _ _ _ _ _ _ om_ om_,set2_other _ _ _ _ _ _ om_ om_]
   exact hc i hi
theorem newF_set {B B':Nat} {u:World} {a:Option Addr} {gs:List F2} {q j:Nat} {v:Value} (h:NewF B u a gs) (hB:B'<=B) (hq:q<B):NewF B' (u.setCell ⟨q,j,none⟩ v) a gs:=by
 refine ⟨?_,?_⟩
 · rcases h.2 with h0 | ⟨g,ha,hg,ho⟩
   · exact .inl h0
   · have hf:=h.1
     rw [ha] at hf ⊢;exact files_setCell hf (by show q≠g;omega)
 · rcases h.2 with h0 | ⟨g,ha,hg,ho⟩
   · exact .inl h0
   · exact .inr ⟨g,ha,om_,open_far ho.1 om_,of4_set ho.2⟩
theorem c44 (a:Option Addr) (cap:Nat) (fs:List F2) (x:F2) (w:World) (hl:fs.length<=1048576) (hs:∀ i,(fs.getD i f2z).le 1048576) (hx:x.le 1048576) (hat:FilesAt w a fs):
 Calls prog 44 #[.agg #[.slice a fs.length cap],.agg #[.string x.nm,.string x.tx]] w fun e w'=>(∃ a' cap' c gs,e=.returned (.tuple #[.agg #[.slice a' gs.length cap'],.int .i64 c])/\NewF w.heap.size w' a' gs/\SetR fs x c gs)/\Below w.heap.size w w':=by
 have HA:=hI_ hat;have HS:Hid (∀ i,(fs.getD i f2z).le 1048576):=hs;have HX7:Hid (x.le 1048700):=⟨Nat.le_trans hx.1 om_,Nat.le_trans hx.2 om_⟩;have H0:Hid (ThreeAt w (((w.alloc (.cells #[.slice a fs.length cap] 26)).alloc (.cells #[.string x.nm,.string x.tx] 40)).alloc (.cells #[.slice none 0 0] 26)) (.slice a fs.length cap) x (.slice none 0 0)):=ThreeAt.start _ _ _ _;clear hat hs hx;go_enter func44,ntmps44
 go_wp2_with fail
 refine (c83 a cap fs _ hl HS.out (files_below HA.out H0.out.bel)).mono ?_;rintro e u1 ⟨⟨v,rfl,hv⟩,hb1⟩;have HV:Hid (v=true↔treeOk fs):=hv;have H1:Hid (ThreeAt w u1 (.slice a fs.length cap) x (.slice none 0 0)):=H0.out.later hb1;obtain ⟨t1,n1,x1,r1,f1⟩:=H1.out.cells;clear hv hb1 H0;cases v
 · have HR:Hid (SetR fs x 1 []):=.inl ⟨fun h=>(by have:=HV.out.2 h;cases this),rfl,rfl⟩
   clear HV;go_wp2;refine bodyPost_ret (v:=.tuple #[.agg #[.slice none 0 0],.int .i64 1]) (by simp [results,Tryz.results44,go_sem,r1]) rfl ⟨⟨none,0,_,[],rfl,⟨.inl rfl,.inl rfl⟩,HR.out⟩,H1.out.bel.setCell so_ _⟩
 have hok:=HV.out.1 rfl;have hl40:fs.length<=40:=hok.1;have HOK:Hid (treeOk fs):=hok;clear hok HV
 go_wp2_with fail
 refine (c84 x u1 HX7.out).mono ?_;rintro e u2 ⟨rfl,hb2⟩;have H2:Hid (ThreeAt w u2 (.slice a fs.length cap) x (.slice none 0 0)):=H1.out.later hb2;clear hb2 t1 n1 x1 r1 f1 H1;obtain ⟨t2,n2,x2,r2,f2⟩:=H2.out.cells;cases hfx:fileOk x
 · have HR:Hid (SetR fs x 2 []):=.inr (.inl ⟨HOK.out,hfx,rfl,rfl⟩)
   go_wp2;refine bodyPost_ret (v:=.tuple #[.agg #[.slice none 0 0],.int .i64 2]) (by simp [results,Tryz.results44,go_sem,r2]) rfl ⟨⟨none,0,_,[],rfl,⟨.inl rfl,.inl rfl⟩,HR.out⟩,H2.out.bel.setCell so_ _⟩
 have hz2:=H2.out.sz
 go_wp2_with fail
 refine (c85 a cap fs u2 om_ (files_below HA.out H2.out.bel)).mono ?_;rintro e u3 ⟨v,rfl,hown,hb3⟩;obtain ⟨av,cv,hve,hfv⟩:=hown.form;subst hve;have H3:Hid (ThreeAt w u3 (.slice a fs.length cap) x (.slice none 0 0)):=H2.out.later hb3;have HO3:Hid (OwnF u3 u2.heap.size (.slice av fs.length cv) fs):=hown;have hz23:u2.heap.size<=u3.heap.size:=hb3.size;clear hown hb3 hfv t2 n2 x2 r2 f2 H2;obtain ⟨t3,n3,x3,r3,f3⟩:=H3.out.cells
 go_wp2_with fail
 refine (c86 a cap fs x.nm u3 hl40 (files_below HA.out H3.out.bel) (asc_of HOK.out)).mono ?_;rintro e u4 ⟨⟨p,f,rfl,hpl⟩,hb4⟩;have HP:Hid (Place fs x.nm p f):=hpl;have H4:Hid (ThreeAt w u4 (.slice a fs.length cap) x (.slice none 0 0)):=H3.out.later hb4;have HO4:Hid (OwnF u4 u2.heap.size (.slice av fs.length cv) fs):=HO3.out.below hb4;have hz34:u3.heap.size<=u4.heap.size:=hb4.size;clear hpl hb4 t3 n3 x3 r3 f3 H3 HO3;obtain ⟨t4,n4,x4,r4,f4⟩:=H4.out.cells;have hz4:=H4.out.sz;cases f
 · obtain ⟨hs3,hs0⟩:=setR_ins HOK.out hfx HP.out
   by_cases h40:fs.length=40
   · have HR:Hid (SetR fs x 3 []):=hs3 om_
     have h40':((fs.length:Int)==40)=true:=so_;clear hs3 hs0;go_wp2;refine bodyPost_ret (v:=.tuple #[.agg #[.slice none 0 0],.int .i64 3]) (by simp [results,Tryz.results44,go_sem,r4]) rfl ⟨⟨none,0,_,[],rfl,⟨.inl rfl,.inl rfl⟩,HR.out⟩,H4.out.bel.setCell so_ _⟩
   have HR:Hid (SetR fs x 0 (ins fs p x)):=hs0 om_;have h40':((fs.length:Int)==40)=false:=so_;clear hs3 hs0;have hA4:Below u4.heap.size u4 (u4.alloc (.cells #[.string x.nm,.string x.tx] 40)):=bA_;have H5:Hid (ThreeAt w (u4.alloc (.cells #[.string x.nm,.string x.tx] 40)) (.slice a fs.length cap) x (.slice none 0 0)):=H4.out.later hA4;have HO5:Hid (OwnF (u4.alloc (.cells #[.string x.nm,.string x.tx] 40)) u2.heap.size (.slice av fs.length cv) fs):=HO4.out.below hA4;have HV5:Hid ((u4.alloc (.cells #[.string x.nm,.string x.tx] 40)).heap[u4.heap.size]?=some (.cells #[.string x.nm,.string x.tx] 40 (0,0))):=alloc_new rfl _;have HNE:Hid (∀ k,(Value.slice av fs.length cv).ownBlock=some k->u4.heap.size≠k):=fun k hk=>by have:=(HO4.out.lt k hk).2;omega
   have hz5:u2.heap.size<=(u4.alloc (.cells #[.string x.nm,.string x.tx] 40)).heap.size:=so_
   go_wp2_with fail
   refine (c87 u2.heap.size u4.heap.size p av cv fs x _ HO5.out HP.out.le hl40 hz5 HV5.out HNE.out).mono ?_;rintro e u6 ⟨⟨a',cap',rfl,hnew⟩,hb6⟩;have HN:Hid (NewF u2.heap.size u6 a' (ins fs p x)):=hnew;have hb6':Below u2.heap.size u4 u6:=(hA4.mono om_).trans hb6;have hr6:u6.heap[w.heap.size+1+1]?=some (.cells #[.slice none 0 0] 26 (0,0)):=by rw [hb6'.block _ om_];exact H4.out.hr
   have r6:u6.cell? ⟨w.heap.size+1+1,0,none⟩=some (.slice none 0 0):=by rw [Lib.cell_of_heap hr6];rfl
   have f6:u6.frozen? ⟨w.heap.size+1+1,0,none⟩=false:=Lib.frozen_of_heap hr6 0;have hB6:Below w.heap.size w u6:=H4.out.bel.trans (hb6'.mono om_);have hil:=ins_len fs p x HP.out.le;clear hnew hb6 hb6' hr6 hA4 H5 HO5 HV5 HNE;go_wp2;refine bodyPost_ret (v:=.tuple #[.agg #[.slice a' (fs.length+1) cap'],.int .i64 0]) (by simp [results,Tryz.results44,go_sem,r6]) rfl ⟨⟨a',cap',0,ins fs p x,by rw [hil],?_,HR.out⟩,hB6.setCell so_ _⟩;exact newF_set HN.out om_ om_
 · obtain ⟨hpl,hset⟩:=setR_put HOK.out hfx HP.out
   have HR:Hid (SetR fs x 0 (put fs p x)):=hset;obtain ⟨g,cap4,hve,hg,hnc,hcel,hfz,hgw⟩:=own_parts HO4.out hpl;have H40:Hid (Of4 u4 g):=own_of4 HO4.out hve;have hav:av=some ⟨g,0,none⟩/\cv=cap4:=by injection hve with h1 _ h3;exact ⟨h1,h3⟩
   obtain ⟨hav,hcc⟩:=hav;subst hav;subst hcc;have g0:=(hcel p hpl).1;have g1:=(hcel p hpl).2;have z0:=hfz (p*2);have z1:=hfz (p*2+1);have HPF:Hid (FilesAt ((u4.setCell ⟨g,p*2,none⟩ (.string x.nm)).setCell ⟨g,p*2+1,none⟩ (.string x.tx)) (some ⟨g,0,none⟩) (put fs p x)):=put_files hpl hgw hcel;have HFZ:Hid (∀ j,u4.frozen? ⟨g,j,none⟩=false):=hfz;have hBU:But g u4 ((u4.setCell ⟨g,p*2,none⟩ (.string x.nm)).setCell ⟨g,p*2+1,none⟩ (.string x.tx)):=((But.refl _ _).setCell _ _).setCell _ _;have HBU:Hid (But g u4 ((u4.setCell ⟨g,p*2,none⟩ (.string x.nm)).setCell ⟨g,p*2+1,none⟩ (.string x.tx))):=hBU;have H5:Hid (ThreeAt w ((u4.setCell ⟨g,p*2,none⟩ (.string x.nm)).setCell ⟨g,p*2+1,none⟩ (.string x.tx)) (.slice a fs.length cap) x (.slice none 0 0)):=H4.out.but hBU om_;have hpI:(p:Int)<(fs.length:Int):=om_;clear hcel hfz hve hset hBU;have HNF:Hid (NewF u2.heap.size ((u4.setCell ⟨g,p*2,none⟩ (.string x.nm)).setCell ⟨g,p*2+1,none⟩ (.string x.tx)) (some ⟨g,0,none⟩) (put fs p x)):=⟨HPF.out,.inr ⟨g,rfl,hg,open_of_files HPF.out (by simpa using hgw) (fun j=>by have:=HFZ.out j;simpa using this),of4_set (of4_set H40.out)⟩⟩;go_wp2;have r5:=H5.out.cells.2.2.2.1;refine bodyPost_ret (v:=.tuple #[.agg #[.slice (some ⟨g,0,none⟩) fs.length cv],.int .i64 0]) (by simp [results,Tryz.results44,go_sem,r5]) rfl ⟨⟨some ⟨g,0,none⟩,cv,0,put fs p x,by rw [put_len hpl],?_,HR.out⟩,H5.out.bel.setCell so_ _⟩;exact newF_set HNF.out om_ om_
end Go.Proofs.YtlckdgjfniglfaaGreatDoor.T
